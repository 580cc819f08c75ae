import PyProof.Rows.All
import Wide.All
import OpenK.AllK
import Wide.FinOn
import PySem.SetTable
import PyProof.TupleKey
import PyProof.SetKind
import PyProof.IsRules
import PyProof.SetRoads
import PyProof.Rows.SetFrom
import PyProof.CollectWalk
import PyProof.DictWalks
import KE.KSortTup
import Lean
import PyProof.EqAt
import PyProof.EqKinds
import PyProof.TupleCall
import PyProof.Rows.StrLen
import PyProof.Rows.StrStep
import KE.KTryMore
import PyProof.NeKinds
import PyProof.NeData
import PyProof.AttrMissHeap
import PyProof.DictRoadsH
import PyProof.Rows.TupTab
import KE.KDictOf
import Wide.Seal
import KE.KItemsList
import KE.KDictSum
import PyProof.Rows.SortWalk
import PyProof.Draws
import PyProof.EnumMake
import KE.KRevIter
import PyProof.SumWalk
import PyProof.AutoIntG2
import PyProof.Rows.SeqMore
import PySem.Challenge.RW_quiltyard_k10_whole_lets
local macro_rules|`(tactic|ext)=>`(tactic|simp_all)
local macro_rules|`(tactic|symm)=>`(tactic|assumption)
open PySem renaming Addr→M1,sizeLine→PK,Shared→VV,Program→zAA,mainGlobals→zAB,wpAny→zAC,model→zAD,World→zAE,FuncData→zAF,starEach→zAG,IsTupleKey→zAH,Around→zAI,tupleKeyHash→zAJ,compareOp→zAK,Stmt→zAL,eval→zAM,cLine→zAN,sysModules→zAO,intKind→zAQ,Expr→zAR,atKey→zAS,tupleKind→zAT,cellsFrom→zAU,binaryOp→zAV,backTo→zAW,IsPair→zAX,keywordEach→zAY,NameKind→zAZ,attributeBase→zBA,wpAny_Call_Name_kw→zBB,wpAny_setField_rec→zBC,storedH→zBD,tupleKind_room_in1→zBE,behindInMarks→zBF,foldedSetIterable→zBH,wpAny_forIn_list→zBJ,codeAny→zBK,wpAny_passesOwn→zBL,importedModules→zBN,wpAny_rule→zBO,call_meets→zBP,swapsWith→zBR,carriedByValue→zBS,ofAClassStatement→zBT,pyNext→zBU,holding→zBV,codeAny_mono→zBW,rawInt→zBX,backToKw→zBY,ZipApart→zBZ,atKey_none_of_get→zCA,wpAny_notOrdered_dict→zCB,wpAny_isInstance→zCC,assignEach→zCD,getMethod→zCE,IsPart→zCF,wpAny_pyIter_zip→zCG,sliceBounds→zCH,wpAny_specialOf→zCJ,letOwnedTupleGo→zCK,pushCells_keeps→zCL,bootBuiltins→zCM,getItem→zCO,call_meetsIn→zCP,pushCells→zCQ,treeTable→zCR,wpAny_setField→zCS,Scope→zCT,Thread→zCU,wpAny_binaryOp_repeat_ref→zCV,wpAny_letOwnedTupleGo_zip→zCW,standAt→zCX,BindsTo→zCY,wpAny_Call_method→zCZ,wpAny_attempt→zDB,wpAny_newList→zDC,wpAny_askSetting→zDE,callWith→zDG,bindArgs→zDH,noFill_tuple_add→zDI,builtinsNs→zDK,wpAny_execs_nil→zDM,hashByValue→zDN,subscripted→zDO,IsZip→zDQ,putAt→zDR,dictSetDefault→zDS,storedH_new→zDT,pickOrder→zDU,Keyword→zDV,callerA→zDW,entryOfKey→zDY,typeLookup→zDZ,PlainAttrs→zDb,valueAt→zDd,pyIter→zDe,isTrue→zDf
open PyProof.Rows renaming seqObj→zAP,IntsAre→zBI,boot_all→zCI,AllBare→zCN,boot_sorted→zDA,envOfC→zDL,args_list_sort→zDP,IsTup→zDX,Subscript_→zDa
open PySem.W renaming rowsOf→zBG,SharedT→zBM,Frag→zBQ,findIn→zDD,kas_place→zDF,kas_asc→zDJ,kas_rev→zDc
abbrev zzA:=PySem.W.Frag
abbrev zzB:=List (List Int)
abbrev zzC:=List (PySem.Addr × PySem.Obj)
abbrev zzD:=List (PySem.Addr × List Int)
abbrev zzE:=PySem.Value->PySem.Shared->Prop
open List (range replicate length nodup_nil map_take foldl)
open PySem.PyData (eqvAll depthAll eqv canLayAll0)
open PySem.Value (type)
open PySem.Obj (mapSeq)
open PySem.Builtin.Dict (updateFrom)
open PySem.F (plainAttrs_str slot_str_join type_str_join)
open Array (getD)
open Option (map_some)
open Bool (false_xor)
open PySem.Heap (size_push)
open Nat (lt_or_ge add_assoc mod_lt)
open PySem.Txt (join)
open Int (zero_add)
theorem yA:type_of% @PySem.wpAny_bind:=@PySem.wpAny_bind
theorem yB.{u,v}:type_of% @List.length_map.{u,v}:=@List.length_map
theorem y1:type_of% @PySem.Heap.get?_push_of_some:=@PySem.Heap.get?_push_of_some
theorem y2.{u}:type_of% @List.getD_eq_getElem?_getD.{u}:=@List.getD_eq_getElem?_getD
theorem y3.{u,v}:type_of% @Prod.mk.inj.{u,v}:=@Prod.mk.inj
theorem y4:type_of% @PySem.wpAny_pure:=@PySem.wpAny_pure
theorem y6:type_of% @Nat.le_refl:=@Nat.le_refl
theorem y8.{u}:type_of% @List.getElem?_eq_getElem.{u}:=@List.getElem?_eq_getElem
theorem q0.{u}:type_of% @List.getElem?_eq_some_iff.{u}:=@List.getElem?_eq_some_iff
theorem xI.{u}:type_of% @if_neg.{u}:=@if_neg
theorem xL.{u,v}:type_of% @List.mem_map.{u,v}:=@List.mem_map
theorem vT:type_of% @PySem.Heap.lt_size:=@PySem.Heap.lt_size
theorem v3.{u,v}:type_of% @List.getElem?_map.{u,v}:=@List.getElem?_map
theorem v4.{u,v}:type_of% @List.map_append.{u,v}:=@List.map_append
theorem v6.{u}:type_of% @if_pos.{u}:=@if_pos
theorem u1.{u}:type_of% @List.mem_cons.{u}:=@List.mem_cons
theorem u3:type_of% @PySem.Heap.get?_push_size:=@PySem.Heap.get?_push_size
theorem u4:type_of% @PySem.sizeLine_eq:=@PySem.sizeLine_eq
theorem u8:type_of% @PySem.W.mg_of:=@PySem.W.mg_of
theorem j1.{u}:type_of% @List.mem_of_getElem?.{u}:=@List.mem_of_getElem?
theorem j2:type_of% @decide_eq_true:=@decide_eq_true
theorem wE:type_of% @Nat.ne_of_lt:=@Nat.ne_of_lt
theorem wP.{u}:type_of% @List.mem_singleton.{u}:=@List.mem_singleton
theorem wS:type_of% @Nat.lt_of_lt_of_le:=@Nat.lt_of_lt_of_le
theorem wT.{u,v}:type_of% @Option.map_eq_some_iff.{u,v}:=@Option.map_eq_some_iff
theorem w8.{u}:type_of% @List.mem_append.{u}:=@List.mem_append
theorem zAa.{u,v,w}:type_of% @List.map_map.{u,v,w}:=@List.map_map
theorem zAb:type_of% @Nat.zero_le:=@Nat.zero_le
theorem zAc.{u}:type_of% @List.mem_cons_self.{u}:=@List.mem_cons_self
theorem zAd.{u}:type_of% @List.take_length.{u}:=@List.take_length
theorem zAe.{u}:type_of% @List.mem_nil_iff.{u}:=@List.mem_nil_iff
theorem zAf.{u}:type_of% @List.length_append.{u}:=@List.length_append
theorem zAg.{u}:type_of% @List.getElem?_append_left.{u}:=@List.getElem?_append_left
theorem zAh.{u,v}:type_of% @List.pairwise_map.{u,v}:=@List.pairwise_map
theorem zAi:type_of% @of_decide_eq_true:=@of_decide_eq_true
theorem zAj.{u}:type_of% @List.all_eq_true.{u}:=@List.all_eq_true
theorem zAk:type_of% @List.mem_range:=@List.mem_range
theorem zAl:type_of% @PySem.PassesOwn.never:=@PySem.PassesOwn.never
theorem zAm.{u}:type_of% @List.take_succ.{u}:=@List.take_succ
theorem zAn.{u}:type_of% @Array.getD_eq_getD_getElem?.{u}:=@Array.getD_eq_getD_getElem?
theorem zAo:type_of% @PySem.F.plainAttrs_list:=@PySem.F.plainAttrs_list
theorem zAp:type_of% @Bool.and_eq_true:=@Bool.and_eq_true
theorem zAq:type_of% @PySem.F.slot_list_append:=@PySem.F.slot_list_append
theorem zAr:type_of% @PySem.F.type_list_append:=@PySem.F.type_list_append
theorem zAs.{u}:type_of% @List.getElem?_append_right.{u}:=@List.getElem?_append_right
theorem zAt.{u}:type_of% @List.mem_filter.{u}:=@List.mem_filter
theorem zAu:type_of% @decide_eq_true_eq:=@decide_eq_true_eq
theorem zAv:type_of% @Nat.le_trans:=@Nat.le_trans
theorem zAw.{u,v}:type_of% @List.map_cons.{u,v}:=@List.map_cons
theorem zAx:type_of% @decide_eq_false:=@decide_eq_false
theorem zAy.{u}:type_of% @Option.some.inj.{u}:=@Option.some.inj
theorem zAz.{u,v}:type_of% @congrArg.{u,v}:=@congrArg
theorem zA0:type_of% @or_false:=@or_false
theorem zA1:type_of% @PySem.boot_len:=@PySem.boot_len
theorem zA2:type_of% @List.range_succ:=@List.range_succ
theorem zA3:type_of% @Int.toNat_natCast:=@Int.toNat_natCast
theorem zA4:type_of% @PySem.W.mg_none_of:=@PySem.W.mg_none_of
theorem zA5.{u}:type_of% @Array.getElem?_eq_getElem.{u}:=@Array.getElem?_eq_getElem
theorem zA6:type_of% @PySem.Heap.get?_update_other:=@PySem.Heap.get?_update_other
theorem zA7:type_of% @Nat.add_sub_cancel:=@Nat.add_sub_cancel
theorem zA8.{u}:type_of% @List.mem_iff_getElem.{u}:=@List.mem_iff_getElem
theorem zA9:type_of% @Nat.mul_le_mul_right:=@Nat.mul_le_mul_right
theorem zBa:type_of% @Bool.false_eq_true:=@Bool.false_eq_true
theorem zBb:type_of% @Bool.false_ne_true:=@Bool.false_ne_true
theorem zBc:type_of% @Nat.succ_mul:=@Nat.succ_mul
theorem zBd:type_of% @Int.eq_ofNat_of_zero_le:=@Int.eq_ofNat_of_zero_le
theorem zBe:type_of% @PySem.wpAny_setState_of:=@PySem.wpAny_setState_of
theorem zBf.{u}:type_of% @List.size_toArray.{u}:=@List.size_toArray
theorem zBg:type_of% @PySem.wpAny_holding:=@PySem.wpAny_holding
theorem zBh:type_of% @PySem.wpAny_call_entry:=@PySem.wpAny_call_entry
theorem zBi:type_of% @PyProof.Rows.callWith_type1:=@PyProof.Rows.callWith_type1
theorem zBj:type_of% @PySem.Around.under_plainId:=@PySem.Around.under_plainId
theorem zBk:type_of% @Nat.le_of_lt:=@Nat.le_of_lt
theorem zBl:type_of% @Nat.lt_irrefl:=@Nat.lt_irrefl
theorem zBm.{u,v}:type_of% @List.all_map.{u,v}:=@List.all_map
theorem zBn:type_of% @List.length_range:=@List.length_range
theorem zBo:type_of% @PySem.wpAny_truthy_bool:=@PySem.wpAny_truthy_bool
theorem zBp.{u}:type_of% @Array.length_toList.{u}:=@Array.length_toList
theorem zBq:type_of% @PySem.codeAny_builtin:=@PySem.codeAny_builtin
theorem zBr.{u}:type_of% @List.find?_cons.{u}:=@List.find?_cons
theorem zBs:type_of% @PySem.Heap.get?_update_self:=@PySem.Heap.get?_update_self
theorem zBt.{u}:type_of% @Array.getElem?_toList.{u}:=@Array.getElem?_toList
theorem zBu.{u}:type_of% @List.mem_append_right.{u}:=@List.mem_append_right
theorem zBv.{u}:type_of% @List.length_take.{u}:=@List.length_take
theorem zBw.{u}:type_of% @List.length_cons.{u}:=@List.length_cons
theorem zBx.{u}:type_of% @List.not_mem_nil.{u}:=@List.not_mem_nil
theorem zBy:type_of% @PySem.wpAny_field:=@PySem.wpAny_field
theorem zBz:type_of% @Nat.pow_le_pow_right:=@Nat.pow_le_pow_right
theorem zB0:type_of% @PySem.wpAny_seqItems:=@PySem.wpAny_seqItems
theorem zB1.{u}:type_of% @List.mem_cons_of_mem.{u}:=@List.mem_cons_of_mem
theorem zB2.{u}:type_of% @List.mem_append_left.{u}:=@List.mem_append_left
theorem zB3:type_of% @PySem.wpAny_mono:=@PySem.wpAny_mono
theorem zB4:type_of% @Bool.and_eq_true_iff:=@Bool.and_eq_true_iff
theorem zB5:type_of% @PySem.wpAny_callSpecial?_slot:=@PySem.wpAny_callSpecial?_slot
theorem zB6.{u}:type_of% @List.nodup_cons.{u}:=@List.nodup_cons
theorem zB7:type_of% @Int.emod_nonneg:=@Int.emod_nonneg
theorem zB8:type_of% @PySem.Heap.SameBut.update:=@PySem.Heap.SameBut.update
theorem zB9:type_of% @Bool.true_and:=@Bool.true_and
theorem zCa.{u}:type_of% @List.getElem_mem.{u}:=@List.getElem_mem
theorem zCb.{u}:type_of% @List.ext_getElem.{u}:=@List.ext_getElem
theorem zCc:type_of% @Nat.lt_of_le_of_lt:=@Nat.lt_of_le_of_lt
theorem zCd:type_of% @PySem.Calls.spliced_cons:=@PySem.Calls.spliced_cons
theorem zCe.{u}:type_of% @List.filter_append.{u}:=@List.filter_append
theorem zCf.{u}:type_of% @List.drop_eq_getElem_cons.{u}:=@List.drop_eq_getElem_cons
theorem zCg:type_of% @Nat.le_succ:=@Nat.le_succ
theorem zCh.{u}:type_of% @Array.mem_toList_iff.{u}:=@Array.mem_toList_iff
theorem zCi.{u}:type_of% @Option.isSome_iff_exists.{u}:=@Option.isSome_iff_exists
theorem zCj:type_of% @Bool.not_eq_true':=@Bool.not_eq_true'
theorem zCk:type_of% @PySem.F.plainAttrs_dict:=@PySem.F.plainAttrs_dict
theorem zCl.{u}:type_of% @List.countP_eq_length_filter.{u}:=@List.countP_eq_length_filter
theorem zCm.{u}:type_of% @Array.getElem?_eq_none.{u}:=@Array.getElem?_eq_none
theorem zCn:type_of% @PySem.W.cellsFrom_some:=@PySem.W.cellsFrom_some
theorem zCo:type_of% @PySem.Calls.callWith_builtin:=@PySem.Calls.callWith_builtin
theorem zCp:type_of% @PySem.wpAny_typeOf:=@PySem.wpAny_typeOf
theorem zCq:type_of% @Nat.ne_of_gt:=@Nat.ne_of_gt
theorem zCr:type_of% @Int.emod_lt_of_pos:=@Int.emod_lt_of_pos
theorem zCs:type_of% @Nat.sub_self:=@Nat.sub_self
theorem zCt.{u}:type_of% @List.mem_iff_getElem?.{u}:=@List.mem_iff_getElem?
theorem zCu.{u}:type_of% @List.append_nil.{u}:=@List.append_nil
theorem zCv:type_of% @PySem.F.slot_dict_get:=@PySem.F.slot_dict_get
theorem zCw:type_of% @PySem.plainId_quiet:=@PySem.plainId_quiet
theorem zCx:type_of% @PySem.wpAny_pyIter_list:=@PySem.wpAny_pyIter_list
theorem zCy:type_of% @PySem.wpAny_newObj_type:=@PySem.wpAny_newObj_type
theorem zCz:type_of% @PySem.Calls.evalArgs_plain:=@PySem.Calls.evalArgs_plain
theorem zC0.{u}:type_of% @List.Pairwise.filter.{u}:=@List.Pairwise.filter
theorem zC1:type_of% @Bool.false_and:=@Bool.false_and
theorem zC2.{u}:type_of% @if_false.{u}:=@if_false
theorem zC3:type_of% @Int.le_of_lt:=@Int.le_of_lt
theorem zC4.{u,v}:type_of% @List.lookup_cons.{u,v}:=@List.lookup_cons
theorem zC5:type_of% @PySem.mem_of_lookup:=@PySem.mem_of_lookup
theorem zC6:type_of% @Bool.eq_iff_iff:=@Bool.eq_iff_iff
set_option Elab.async false
set_option linter.all false
set_option autoImplicit true
set_option maxRecDepth 100000
set_option compiler.extract_closed false
set_option maxHeartbeats 4000000
theorem hold {G:Prop}(k:∀P:Prop,(G->P)->P):G:=k G id
namespace TB
open PySem PySem.SetTable
noncomputable def yu (xs:Array Nat):Prop:=∀a b,a < b->b < xs.size->xs.getD a 0 < xs.getD b 0
theorem QG {xs:Array Nat}(h:k < xs.size)(d e:Nat):xs.getD k d=xs.getD k e:=by ext
noncomputable def Parts (xs:Array Nat)(j b:Nat):Prop:=b<=xs.size/\(∀k,k < b->xs.getD k 0 < j)/\(∀k,b<=k->k < xs.size->j<=xs.getD k 0)
theorem go_eq (xs:Array Nat)(j a lo b:Nat):below.go xs j (a+1) lo b=if lo < b then (if xs.getD ((lo+b) / 2) j < j then below.go xs j a ((lo+b) / 2+1) b else below.go xs j a lo ((lo+b) / 2)) else lo:=rfl
theorem AU:∀(a lo b:Nat),lo<=b->b<=xs.size->b - lo<=a->yu xs->(∀k,k < lo->xs.getD k 0 < j)->(∀k,b<=k->k < xs.size->j<=xs.getD k 0)->Parts xs j (below.go xs j a lo b)
 | 0,lo,b,p,n,o,_,d,g=>⟨show lo<=_ by lia,d,λk h=>g k (by have:lo<=k:=h; lia)⟩| a+1,lo,b,p,n,o,f,d,g=>by
  rw[go_eq];by_cases c:lo < b
  ·rw[v6 c];have i:(lo+b) / 2 < xs.size:=by lia
   rw[QG i j 0];by_cases l:xs.getD ((lo+b) / 2) 0 < j
   ·rw[v6 l];refine AU a _ _ (by lia) n (by grind) f (λk h=>?_) g;by_cases e:k=(lo+b) / 2;·rw[e]; exact l
    ·have:=f k ((lo+b) / 2) (by lia) i;lia
   ·rw[xI l];refine AU a _ _ (by lia) (zBk i) (by lia) f d λk h m=>?_;by_cases e:k=(lo+b) / 2;·rw[e]; ext
    ·have:=f ((lo+b) / 2) k (by lia) m;lia
  ·rw[xI c];exact⟨by grind,d,λk h=>g k (by lia)⟩
theorem oU (a:yu xs)(j:Nat):Parts xs j (below xs j):= AU _ _ _ (zAb _) (y6 _) (by simp) a (by simp) (by lia)
theorem pJ (a:yu xs)(h:xs[k]?=some j):below xs j=k:=by
 obtain⟨g,f,c⟩:=oU a j;have b:k < xs.size:=by grind
 have e:xs.getD k 0=j:=by ext
 rcases Nat.lt_trichotomy (below xs j) k with q | q | q
 ·have i:=c _ (y6 _) (by lia);have d:=a _ k q b;lia
 ·symm
 grind
structure Plain (t:SetTable):Prop where
 rise:yu t.place
 HE:t.dummies=#[]
theorem HG (j:Nat):has #[] j=false:=by rfl
theorem vn (h:Plain t)(e:t.place[k]?=some j):t.slot j=.live k:=by unfold slot;rw[pJ h.rise e];ext
theorem Jq (h:Plain t)(e:j∉t.place.toList):t.slot j=.empty:=by
 unfold slot;have q:¬ t.place[below t.place j]?=some j:=λz=>e (by have:=Array.mem_of_getElem? z;exact zCh.mpr this);have a:(t.place[below t.place j]? == some j)=false:=by simpa using q
 dsimp only;rw[a,h.HE,HG];rfl
noncomputable def r_ (m:Nat)(p:Probe):Probe:= if p.more > 0 then { p with j:=p.j+1,more:=p.more - 1 } else{ p with j:=(leap m p.i p.perturb).1,more:=runEnd m (leap m p.i p.perturb).1 - (leap m p.i p.perturb).1,i:=(leap m p.i p.perturb).1,perturb:=(leap m p.i p.perturb).2 }
noncomputable def O1 (m i perturb:Nat):Probe:={ j:=i,more:=runEnd m i - i,i:=i,perturb:=perturb,dummy:=none }
noncomputable def pr (m:Nat)(h:Int):Nat->Probe| 0=>O1 m (bits h % (m+1)) (bits h)| n+1=>r_ m (pr m h n)
theorem yv (m:Nat)(h:Int):∀n,(pr m h n).dummy=none
 | 0=>rfl| n+1=>by
  show (r_ m _).dummy=none;unfold r_;split;·exact yv m h n
  ·exact yv m h n
noncomputable def lp (m:Nat)(h:Int):Nat->Nat × Nat| 0=>(bits h % (m+1),bits h)| l+1=>leap m (lp m h l).1 (lp m h l).2
theorem zk (m i p:Nat):∀k,k<=runEnd m i - i->∀(f:Nat->Probe),(∀n,f (n+1)=r_ m (f n))->∀n,f n=O1 m i p->f (n+k)={ j:=i+k,more:=runEnd m i - i - k,i:=i,perturb:=p,dummy:=none }| 0,_,f,a,n,e=>by rw[Nat.add_zero,e]; rfl| k+1,b,f,a,n,e=>by have c:=zk m i p k (zBk b) f a n e;rw[show n+(k+1)=(n+k)+1 by rfl,a,c];unfold r_;rw[v6 (by show runEnd m i - i - k > 0; lia)];show ({ j:=i+k+1,more:=runEnd m i - i - k - 1,i:=i,perturb:=p,dummy:=none }:Probe)=_;congr 1
theorem SE (m i:Nat):runEnd m i - i<=9:=by unfold runEnd;split <;> simp
theorem HH (m:Nat)(h:Int):∀l,∃n,n<=10 * l/\pr m h n=O1 m (lp m h l).1 (lp m h l).2| 0=>⟨0,y6 _,rfl⟩| l+1=>by obtain⟨n,a,e⟩:=HH m h l;have b:=SE m (lp m h l).1;have r:=zk m _ _ _ (y6 _) _ (λ_=>rfl) n e;refine⟨n+(runEnd m (lp m h l).1 - (lp m h l).1)+1,by lia,?_⟩;show r_ m _=_;rw[r];unfold r_;rw[xI (by simp)];rfl
theorem QH (h:Int):bits h < 2 ^ 64:=by unfold bits;lia
theorem zm (m:Nat)(h:Int):∀l,(lp m h l).2=bits h / 32 ^ l| 0=>by simp [lp]| l+1=>by show (lp m h l).2 / 32=_;rw[zm m h l,Nat.div_div_eq_div_mul,Nat.pow_succ]
theorem QI (m:Nat)(h:Int)(a:13<=l):(lp m h l).2=0:=by rw[zm];refine Nat.div_eq_of_lt (wS (QH h) ?_);have:(32:Nat) ^ 13<=32 ^ l:=zBz (by decide) a;exact zAv (by decide) this
theorem Wz (m:Nat)(h:Int):∀l,(lp m h l).1 < m+1| 0=>mod_lt _ (by simp)| l+1=>mod_lt _ (by simp)
noncomputable def f0 (m i:Nat):Nat:=(i * 5+1) % (m+1)
noncomputable def it (m:Nat):Nat->Nat->Nat| 0,i=>i| k+1,i=>it m k (f0 m i)
theorem vo (m:Nat):∀(a b i:Nat),it m (a+b) i=it m b (it m a i)| 0,b,i=>by rw[Nat.zero_add]; rfl| a+1,b,i=>by rw[show a+1+b=(a+b)+1 by lia];exact vo m a b _
theorem O2 (m:Nat)(h:Int)(a:13<=l):∀k,(lp m h (l+k)).1=it m k (lp m h l).1
 | 0=>rfl| k+1=>by
  have:it m (k+1) (lp m h l).1=f0 m (it m k (lp m h l).1):=by rw[vo m k 1]; rfl
  rw[this,<-O2 m h a k];show (leap m (lp m h (l+k)).1 (lp m h (l+k)).2).1=_;unfold leap f0;rw[QI m h (by lia)]
noncomputable def Ks (m:Nat):Nat->Nat->List Nat| 0,_=>[]| k+1,i=>i::Ks m k (f0 m i)
theorem Ku (m:Nat):∀(k i a x:Nat),(Ks m k i)[a]?=some x->a < k/\it m a i=x| 0,i,a,x,h=>by simp [Ks] at h| k+1,i,0,x,h=>by unfold Ks at h;simp at h;exact⟨by simp,h⟩| k+1,i,a+1,x,h=>by obtain⟨c,b⟩:=Ku m k _ a x h;exact⟨by ext,b⟩
noncomputable def gG (m:Nat):Prop:=((range (m+1)).all λi=>(Ks m (m+1) 0).contains i)=true/\it m (m+1) 0=0
theorem Kv:gG 7:=by constructor <;> decide +kernel
theorem QJ:gG 31:=by constructor <;> decide +kernel
theorem MV:gG 127:=by constructor <;> decide +kernel
theorem gG.pos (w:gG m)(c:i < m+1):∃a,a < m+1/\it m a 0=i:=by have:=zAj.mp w.1 i (by ext);obtain⟨a,b⟩:=zCt.mp (List.contains_iff_mem.mp this);exact⟨a,Ku m _ _ a i b⟩
theorem gG.go (w:gG m)(f:i < m+1)(e:j < m+1):∃k,k<=m/\it m k i=j:=by
 obtain⟨a,h,d⟩:=w.pos f;obtain⟨b,g,l⟩:=w.pos e;by_cases c:a<=b
 ·refine⟨b - a,by grind,?_⟩;rw[<-d,<-vo,show a+(b - a)=b by ext];symm
 ·refine⟨b+(m+1) - a,by lia,?_⟩;rw[<-d,<-vo,show a+(b+(m+1) - a)=(m+1)+b by lia,vo,w.2];symm
theorem gG.leap (w:gG m)(h:Int)(a:j < m+1):∃l,l<=m+13/\(lp m h l).1=j:=by obtain⟨k,b,e⟩:=w.go (Wz m h 13) a;exact⟨13+k,by lia,by rw[O2 m h (y6 13),e]⟩
theorem gG.cover (w:gG m)(h:Int)(a:j < m+1):∃n,n < 10 * turns m/\(pr m h n).j=j:=by obtain⟨l,c,e⟩:=w.leap h a;obtain⟨n,d,b⟩:=HH m h l;refine⟨n,by unfold turns; lia,?_⟩;rw[b];symm
theorem gH {α:Type}[DecidableEq α]:∀{l1 l2:List α},l1.Nodup->(∀x∈l1,x∈l2)->l1.length<=l2.length| [],_,_,_=>zAb _| x::b,l2,a,h=>by rw[zB6] at a;have:=gH (l2:=l2.erase x) a.2 (by grind);grind
noncomputable def Reach (m:Nat)(a:Nat->Prop)(h:Int)(j:Nat):Prop:=∃n,(pr m h n).j=j/\∀k,k < n->a (pr m h k).j
theorem Reach.mono (r:Reach m o h j)(s:∀k,o k->a k):Reach m a h j:=by obtain⟨n,e,q⟩:=r;exact⟨n,e,λk b=>s _ (q k b)⟩
structure m9 (t:SetTable)(hs:List Int):Prop where
 plain:Plain t
 whole:gG t.mask
 size:t.place.toList.length=hs.length
 low:∀j∈t.place.toList,j<=t.mask
 room:hs.length<=t.mask
 reach:∀x∈t.place.toList.zip hs,Reach t.mask (·∈t.place.toList) x.2 x.1
theorem yw:yu xs↔xs.toList.Pairwise (· < ·):=by
 rw[List.pairwise_iff_getElem];constructor
 ·intro h i j l k d;have:=h i j d ‹_›;have f:i < xs.size:=by symm
  have g:j < xs.size:=by symm
  ext
 ·intro h a b c e;have:=h a b (by grind) ‹_› c;simpa [e,show a < xs.size by lia] using this
theorem least {p:Nat->Prop}[DecidablePred p]:∀n,p n->∃k,k<=n/\p k/\∀i,i < k->¬ p i:=by intro n;induction n using Nat.strongRecOn with| _ n d=>
  intro h;by_cases c:∃i,i < n/\p i
  ·obtain⟨i,b,a⟩:=c;obtain⟨k,e,r⟩:=d i b a;exact⟨k,by lia,r⟩
  ·exact⟨n,y6 _,h,λi b a=>c ⟨i,b,a⟩⟩
theorem m9.hole (H:m9 t a):∃j,j < t.mask+1/\j∉t.place.toList:=by
 by_cases c:∀j,j < t.mask+1->j∈t.place.toList
 ·have:=gH List.nodup_range λx b=>c x (zAk.mp b);rw[zBn,H.size] at this;have:=H.room;lia
 ext
theorem m9.first (H:m9 t m)(h:Int):∃N,N < 10 * turns t.mask/\(pr t.mask h N).j∉t.place.toList/\∀k,k < N->(pr t.mask h k).j∈t.place.toList:=by obtain⟨j,f,d⟩:=H.hole;obtain⟨n,c,e⟩:=H.whole.cover h f;obtain⟨k,o,g,b⟩:=least (p:=λn=>(pr t.mask h n).j∉t.place.toList) n (by rw[e]; exact d);exact⟨k,by lia,g,λi l=>Classical.not_not.mp (b i l)⟩
theorem DI (m:Nat)(h:Int)(n:Nat):(pr m h n).j<=m/\(pr m h n).j+(pr m h n).more<=m:=by induction n with| zero=> show bits h % (m+1)<=m/\bits h % (m+1)+(runEnd m _ - bits h % (m+1))<=m;have:=mod_lt (bits h) (show 0 < m+1 by simp);unfold runEnd;grind| succ n a=>
  show (r_ m _).j<=m/\(r_ m _).j+(r_ m _).more<=m;unfold r_;split;·grind
  ·have:(leap m (pr m h n).i (pr m h n).perturb).1 < m+1:=mod_lt _ (by simp);unfold runEnd;grind
theorem nI (t:SetTable)(a:Nat->Int)(h:Int)(b:Nat)(p:Probe):probe.go t a h (b+1) p=(match t.slot p.j with| .empty=>some (.empty p.j p.dummy)| .dummy=>probe.go t a h b (t.advance { p with dummy:=some p.j })| .live i=>if a i == h then some (.candidate p.j i (t.advance p)) else probe.go t a h b (t.advance p)):=rfl
theorem DJ:∀(n b a:Nat),n < b->(∀k,k < n->∃i,t.slot (pr t.mask h (a+k)).j=.live i/\(c i == h)=false)->t.slot (pr t.mask h (a+n)).j=.empty-> probe.go t c h b (pr t.mask h a)=some (.empty (pr t.mask h (a+n)).j none)| 0,b+1,a,_,_,e=>by rw[Nat.add_zero] at e ⊢;rw[nI,e,yv];simp| n+1,b+1,a,m,f,e=>by obtain⟨i,d,g⟩:=f 0 (by simp);rw[Nat.add_zero] at d;rw[nI,d];dsimp only;rw[g];have:=DJ n b _ (by ext) (λk l=>by have:=f (k+1) (by ext);rwa [show a+(k+1)=a+1+k by lia] at this) (by grind);rw[show a+(n+1)=a+1+n by lia];symm
theorem HJ:∀(n c a:Nat),n < c->(∀k,k < n->∃i,t.slot (pr t.mask h (a+k)).j=.live i/\(b i == h)=false)->t.slot (pr t.mask h (a+n)).j=.live i->(b i == h)=true-> probe.go t b h c (pr t.mask h a)=some (.candidate (pr t.mask h (a+n)).j i (pr t.mask h (a+n+1)))| 0,c+1,a,_,_,e,d=>by rw[Nat.add_zero] at e ⊢;rw[nI,e];dsimp only;rw[d];rfl| n+1,c+1,a,m,f,e,d=>by obtain⟨p,g,l⟩:=f 0 (by simp);rw[Nat.add_zero] at g;rw[nI,g];dsimp only;rw[l];have:=HJ n c _ (by ext) (λk o=>by have:=f (k+1) (by ext);rwa [show a+(k+1)=a+1+k by lia] at this) (by grind) d;rw[show a+(n+1)=a+1+n by lia];symm
theorem uR (xs:Array α)(p:Nat)(x:α)(h:p<=xs.size):(insertAt xs p x).toList=xs.toList.take p++x::xs.toList.drop p:=by unfold insertAt;simp;rw[List.take_of_length_le (by simp)]
theorem QK {α β:Type}(l1:List α)(l2:List β)(p:Nat)(x:α)(y:β)(h:l1.length=l2.length):(l1.take p++x::l1.drop p).zip (l2.take p++y::l2.drop p)=(l1.zip l2).take p++(x,y)::(l1.zip l2).drop p:=by
 rw[List.zip_append (by ext)];congr 1;·simp [List.zip,List.take_zipWith]
 ·simp [List.zip,List.drop_zipWith]
theorem xj {α:Type}{l:List α}{x y:α}:y∈l.take p++x::l.drop p↔y=x\/y∈l:=by
 constructor;·grind
 ·rintro (h | h);·ext
  ·rw[<-List.take_append_drop p l] at h;grind
theorem m9.put (H:m9 t f)(E:j∉t.place.toList)(C:j<=t.mask)(A:Reach t.mask (·∈t.place.toList) h j)(s:f.length+1<=t.mask) :(t.put j).2<=f.length/\(t.put j).1.mask=t.mask/\(t.put j).1.place.size=f.length+1/\(t.put j).1.dummies=#[]/\m9 (t.put j).1 (f.take (t.put j).2++h::f.drop (t.put j).2):=by
 obtain⟨u,B,D⟩:=oU H.plain.rise j;have z:=by simpa using H.size
 have w:(t.put j).2=below t.place j:=rfl;have q:(t.put j).1.dummies=#[]:=by show (if has t.dummies j=true then _ else t.dummies)=#[];rw[H.plain.HE,HG,xI (by decide)]
 have d:(t.put j).1.place.toList=t.place.toList.take _++j::t.place.toList.drop (below t.place j):=uR _ _ _ u;have g:=by
  have:(t.put j).1.place.toList.length=f.length+1:=by grind
  symm
 rw[w];refine⟨by ext,rfl,g,q,⟨⟨?_,q⟩,H.whole,?_,?_,?_,?_⟩⟩
 ·rw[yw,d,List.pairwise_append];have y:=yw.mp H.plain.rise;have p:∀a∈t.place.toList.take (below t.place j),a < j:=λa c=>by
   obtain⟨i,o,e⟩:=zA8.mp c;rw[zBv] at o;have l:i < t.place.size:=by lia
   have:=B i (by ext);ext
  have r:∀a∈t.place.toList.drop (below t.place j),j < a:=λa c=>by
   obtain⟨i,o,e⟩:=zA8.mp c;have l:below t.place j+i < t.place.size:=by grind
   have:=D (below t.place j+i) (by simp) l;ext;grind
  refine⟨(by grind),List.pairwise_cons.mpr ⟨r,y.sublist (List.drop_sublist _ _)⟩,λa c b n=>?_⟩;rcases u1.mp n with rfl | n;·exact p a c
  ·have:=p a c;have:=r b n;lia
 ·rw[d];simp only [zAf,zBw,zBv,List.length_drop];rw[H.size]
 ·intro a c;rw[d,xj] at c;rcases c with rfl | c;·exact C
  ·exact H.low a c
 ·simp;show _<=t.mask;ext
 ·intro x m;rw[d,QK _ _ _ _ _ H.size,xj] at m;have mono:∀k,k∈t.place.toList->k∈(t.put j).1.place.toList:=λk v=>by rw[d,xj]; exact .inr v
  rcases m with rfl | m;·exact A.mono mono
  ·exact (H.reach x m).mono mono
noncomputable def pK (owner:Array (Option Nat))(x:Nat):Prop:=∃q,owner[x]?=some (some q)
theorem free_eq (m:Nat)(owner:Array (Option Nat))(a i p:Nat):layClean.free m owner (a+1) i p=(match (range (runEnd m i+1 - i)).find? λk=>(owner.getD (i+k) (some 0)).isNone with| some k=>some (i+k)| none=>layClean.free m owner a (leap m i p).1 (leap m i p).2):=rfl
theorem Ky (a:x < owner.size)(h:(owner.getD x (some 0)).isNone=false):pK owner x:=by cases e:owner[x] with| none=>ext| some q=>exact⟨q,by ext⟩
theorem QL (h:(owner.getD x (some 0)).isNone=true):x < owner.size/\¬ pK owner x:=by
 by_cases a:x < owner.size
 ·refine⟨a,λ⟨q,e⟩=>?_⟩;ext
 ext
theorem BP (w:gG m)(A:owner.size=m+1)(h:Int)(b:∃j,j < m+1/\¬ pK owner j) : ∀(a l n:Nat),l+a=turns m->pr m h n=O1 m (lp m h l).1 (lp m h l).2->(∀k,k < n->pK owner (pr m h k).j)->(∀g,g < l->pK owner (lp m h g).1)-> ∃j,layClean.free m owner a (lp m h l).1 (lp m h l).2=some j/\j < owner.size/\¬ pK owner j/\Reach m (pK owner) h j
 | 0,l,n,D,_,_,f=>by obtain⟨j,L,y⟩:=b;obtain⟨g,x,e⟩:=w.leap h L;unfold turns at D;grind| a+1,l,n,D,e,y,f=>by
  rw[free_eq];have p:∀k,k < runEnd m (lp m h l).1+1 - (lp m h l).1->(pr m h (n+k)).j=(lp m h l).1+k:=λk o=>by rw[zk m _ _ k (by lia) (pr m h) (λ_=>rfl) n e]
  have s:∀k,k < runEnd m (lp m h l).1+1 - (lp m h l).1->(lp m h l).1+k < m+1:=λk o=>by have:=(DI m h (n+k)).1;grind
  cases c:(range _).find? _ with| some k=>
   obtain⟨F,G,O,J,H⟩:=List.find?_eq_some_iff_append.mp c;have o:k < runEnd m (lp m h l).1+1 - (lp m h l).1:=zAk.mp (by ext);have z:∀i,i < k->i∈G:=λi u=>by
    have r:i∈range (runEnd m (lp m h l).1+1 - (lp m h l).1):=zAk.mpr (by lia);have C:(range (runEnd m (lp m h l).1+1 - (lp m h l).1)).Pairwise (· < ·):=List.pairwise_lt_range;rw[J] at r C;rcases w8.mp r with q | q;·exact q
    ·rcases u1.mp q with q | q;·ext
     ·have:=(List.pairwise_cons.mp (List.pairwise_append.mp C).2.1).1 i q;lia
   have E:=QL F;refine⟨(lp m h l).1+k,rfl,E.1,E.2,n+k,p k o,λi u=>?_⟩;by_cases N:i < n;·exact y i N
   ·have t:=p (i - n) (by grind);rw[show n+(i - n)=i by ext] at t;rw[t];have:=H (i - n) (z _ (by grind));exact Ky (by rw[A]; exact s _ (by grind)) (by simpa using this)| none=>
   have v:=List.find?_eq_none.mp c;have M:=zk m _ _ _ (y6 _) (pr m h) (λ_=>rfl) n e;have B:(lp m h l).1<=runEnd m (lp m h l).1:=by unfold runEnd; split <;> simp
   have d:=λk o=>by have:=v k (zAk.mpr o);exact Ky (by rw[A]; exact s k o) (Bool.eq_false_iff.mpr this)
   refine BP w A h b a (l+1) (n+(runEnd m (lp m h l).1 - (lp m h l).1)+1) (by lia) ?_ (λk o=>?_) λg x=>?_
   ·show r_ m _=_;rw[M];unfold r_;rw[xI (by show ¬ runEnd m (lp m h l).1 - (lp m h l).1 - (runEnd m (lp m h l).1 - (lp m h l).1) > 0; simp)];rfl
   ·by_cases K:k < n;·exact y k K
    ·have t:=p (k - n) (by grind);rw[show n+(k - n)=k by ext] at t;rw[t];exact d _ (by grind)
   ·by_cases I:g < l;·exact f g I
    ·have:g=l:=by lia
     subst this;have:=d 0 (by grind);simpa using this
structure m_ (m:Nat)(hs:List Int)(k:Nat)(owner:Array (Option Nat)):Prop where
 size:owner.size=m+1
 each:∀(q:Nat) (h:Int),q < k->hs[q]?=some h->∃j:Nat,owner[j]?=some (some q)/\Reach m (pK owner) h j
 low:∀(j q:Nat),owner[j]?=some (some q)->q < k
 inj:∀(j j' q:Nat),owner[j]?=some (some q)->owner[j']?=some (some q)->j=j'
theorem m_.start (m:Nat)(c:List Int):m_ m c 0 (Array.replicate (m+1) none):=by
 have a:∀(j q:Nat),(Array.replicate (m+1) (none:Option Nat))[j]?=some (some q)->False:=λj q e=>by rw[Array.getElem?_replicate] at e;split at e <;> simp at e
 exact⟨by simp,λq h b=>absurd b (by ext),λj q e=>(a j q e).elim,λj d q e=>(a j q e).elim⟩
theorem m_.hole (O:m_ m o k owner)(u:k<=m):∃j,j < m+1/\¬ pK owner j:=by
 by_cases c:∀j,j < m+1->pK owner j;·
  have f:∀j,j < m+1->∃q,owner[j]?=some (some q):=c;let g:Nat->Nat:=λj=>((owner[j]?).join).getD 0;have i:∀j,j < m+1->owner[j]?=some (some (g j)):=λj h=>by obtain⟨q,e⟩:=f j h;show _=some (some (((owner[j]?).join).getD 0));rw[e]; rfl
  have s:((range (m+1)).map g).Nodup:=by rw[List.Nodup,zAh];refine (List.nodup_range (n:=m+1)).imp_of_mem λ{a b} t l p e=>p ?_;exact O.inj a b (g a) (i a (zAk.mp t)) (e ▸ i b (zAk.mp l))
  have:=gH (l2:=range k) s λx r=>by obtain⟨j,h,rfl⟩:=xL.mp r;exact zAk.mpr (O.low j _ (i j (zAk.mp h)))
  rw[yB,zBn,zBn] at this;lia
 ·have ⟨j,h⟩:=Classical.not_forall.mp c;exact⟨j,Classical.not_imp.mp h⟩
theorem m_.next (O:m_ m l k owner)(u:l[k]?=some h)(s:j < owner.size)(p:¬ pK owner j)(v:Reach m (pK owner) h j) : m_ m l (k+1) (owner.setIfInBounds j (some k)):=by
 have a:∀x,(owner.setIfInBounds j (some k))[x]?=if j=x then (if x < owner.size then some (some k) else none) else owner[x]?:=λx=>by
  rw[Array.getElem?_setIfInBounds];by_cases c:j=x;·subst c; simp [s]
  ·simp [c]
 have d:∀x,pK owner x->pK (owner.setIfInBounds j (some k)) x:=λx ⟨q,e⟩=>by have n:¬ j=x:=λz=>p (z ▸ ⟨q,e⟩);exact⟨q,by rw[a,xI n]; exact e⟩
 refine⟨by simp [O.size],λq t w g=>?_,λx q e=>?_,λx y q f b=>?_⟩
 ·by_cases c:q=k
  ·subst c;rw[u] at g;cases g;exact⟨j,by rw[a,v6 rfl,v6 s],v.mono d⟩
  ·obtain⟨x,e,r⟩:=O.each q t (by lia) g;have n:¬ j=x:=λz=>p (z ▸ ⟨q,e⟩);exact⟨x,by rw[a,xI n]; exact e,r.mono d⟩
 ·rw[a] at e;by_cases c:j=x
  ·rw[v6 c] at e;split at e;·cases e; simp
   ·cases e
  ·rw[xI c] at e;have:=O.low x q e;lia
 ·rw[a] at f b;by_cases o:j=x
  ·rw[v6 o] at f;split at f
   ·cases f;by_cases i:j=y;·ext
    ·rw[xI i] at b;have:=O.low y _ b;ext
   ·cases f
  ·rw[xI o] at f;by_cases i:j=y
   ·rw[v6 i] at b;split at b
    ·cases b;have:=O.low x _ f;ext
    ·cases b
   ·rw[xI i] at b;exact O.inj x y q f b
noncomputable def xo (m:Nat)(b:Option (Array (Option Nat) × Nat))(h:Int):Option (Array (Option Nat) × Nat):=do let (a,k) <-b;let j <-layClean.free m a (turns m) (bits h % (m+1)) (bits h);pure (a.setIfInBounds j (some k),k+1)
theorem DK (w:gG m)(b:List Int)(f:b.length<=m):∀(rest:List Int) (k:Nat) (owner:Array (Option Nat)),k<=b.length->m_ m b k owner->b.drop k=rest-> ∃a,rest.foldl (xo m) (some (owner,k))=some (a,b.length)/\m_ m b b.length a
 | [],k,owner,d,O,e=>by
  have c:b.length<=k:=by ext
  grind| h::rest,k,owner,d,O,e=>by
  have c:k < b.length:=by grind
  have n:b[k]?=some h:=by have:=List.getElem?_drop (xs:=b) (i:=k) (j:=0);ext
  obtain⟨j,t,r,g,p⟩:=BP w O.size h (O.hole (by lia)) (turns m) 0 0 (by simp) rfl (λk c=>absurd c (by ext)) λl o=>absurd o (by ext);have q:xo m (some (owner,k)) h=some (owner.setIfInBounds j (some k),k+1):=by unfold xo;have s:layClean.free m owner _ (bits h % (m+1)) (bits h)=some j:=t;ext
  rw[List.foldl_cons,q];exact DK w b f rest _ _ ‹_› (O.next n r g p) (by have:=zAz (List.drop 1) e;rw[List.drop_drop] at this;symm)
theorem CY (w:gG m)(a:List Int)(b:a.length<=m):∃owner,layClean m a.toArray=some owner/\m_ m a a.length owner:=by obtain⟨owner,e,O⟩:=DK w a b a 0 _ (zAb _) (m_.start m a) rfl;refine⟨owner,?_,O⟩;unfold layClean;rw[<-Array.foldl_toList];show ((a.foldl (xo m) _).map _)=_;ext
noncomputable def jl (m:Nat)(owner:Array (Option Nat)):List (Nat × Nat):=(range (m+1)).filterMap λj=>(owner.getD j none).map (j,·)
theorem jn (d:owner.size=m+1):x∈jl m owner↔owner[x.1]?=some (some x.2):=by
 unfold jl;rw[List.mem_filterMap];constructor
 ·rintro⟨j,b,e⟩;have a:j < owner.size:=by ext
  cases c:owner[j] with| none=>ext| some q=> ext;grind
 ·intro e;have b:x.1 < owner.size:=by grind
  refine⟨x.1,(by ext),?_⟩;ext
theorem BQ (m:Nat)(owner:Array (Option Nat)):((jl m owner).map (·.1)).Pairwise (· < ·):=by rw[zAh];refine List.Pairwise.filterMap _ ?_ (List.pairwise_lt_range);ext
theorem sy (O:m_ m f k owner):((jl m owner).map (·.2)).Nodup:=by rw[List.Nodup,zAh];have:=BQ m owner;rw[zAh] at this;refine this.imp_of_mem λ{a b} g d i e=>?_;have c:=(jn O.size).mp g;have h:=(jn O.size).mp d;rw[e] at c;have:=O.inj _ _ _ c h;ext
theorem DL (O:m_ m b b.length owner):(jl m owner).length=b.length:=by
 have d:=gH (sy O) λx a=>by obtain⟨y,c,rfl⟩:=xL.mp a;exact zAk.mpr (O.low _ _ ((jn O.size).mp c))
 have f:=gH (l2:=(jl m owner).map (·.2)) List.nodup_range λx a=>by have a:=zAk.mp a;obtain⟨j,e,_⟩:=O.each x b[x] a (by simp);exact xL.mpr ⟨(j,x),(jn O.size).mpr e,rfl⟩
 grind
theorem Kz (w:gG m)(finger moves:Nat)(led plain:Bool)(c:List Int)(k:c.length<=m) : ∃t b,laid m finger moves led plain c.toArray=some (t,b)/\t.mask=m/\t.led=led/\t.plain=plain/\t.dummies=#[]/\b.toList.length=c.length/\b.toList.Nodup/\(∀q∈b.toList,q < c.length)/\ m9 t (b.toList.map λq=>c.getD q 0):=by
 obtain⟨a,e,O⟩:=CY w c k;refine⟨{ mask:=m,place:=((jl m a).map (·.1)).toArray,dummies:=#[],finger,led,moves,plain },((jl m a).map _).toArray,?_,rfl,rfl,rfl,rfl,?_,sy O,?_,?_⟩
 ·unfold laid;rw[e];rfl
 ·rw[yB,DL O]
 ·intro q g;obtain⟨y,d,rfl⟩:=xL.mp (show q∈(jl m a).map _ from g);exact O.low _ _ ((jn O.size).mp d)
 ·have h:∀x,pK a x->x∈(jl m a).map (·.1):=λx ⟨q,e⟩=>xL.mpr ⟨(x,q),(jn O.size).mpr e,rfl⟩;refine⟨⟨yw.mpr (BQ m a),rfl⟩,w,?_,?_,?_,?_⟩;·simp
  ·intro j p;obtain⟨y,d,rfl⟩:=xL.mp (show j∈(jl m a).map _ from p);have:=(jn O.size).mp d;have s:y.1 < a.size:=by
    rcases lt_or_ge _ a.size with q | q;·exact q
    ·rw[zCm q] at this; cases this
   show y.1<=m;have:=O.size;lia
  ·rw[yB,yB,DL O];exact k
  ·intro x l;have f:=l;rw[zAa,List.zip_map'] at f;obtain⟨y,d,rfl⟩:=xL.mp f;have i:=(jn O.size).mp d;have g:=O.low _ _ i;have o:c[y.2]?=some (c.getD y.2 0):=by ext
   obtain⟨j,n,r⟩:=O.each _ _ g o;have:=O.inj _ _ _ i n;rw[this];exact r.mono h
section
variable {prog:zAA}{w:zAE}{K:Type}[DecidableEq K]{knd:KeyKind prog w K}{A:zAI}{E:zzE}{s:VV}
theorem DM (n:Nat)(h:zBS v=true):zBT n v=pure false:=by cases v with| ref a=>simp [zBS] at h| _=>unfold zBT; rfl
theorem uS {ks:List K}{a:M1}{Q:Bool->VV->Prop}(f:zAH knd s.heap ks a)(h:Q false s):zAC (zAD prog w) A (zBT 8 (.ref a)) Q E s:=by
 have g:=f.typeIs;obtain⟨o,c,n,i,_,l,k⟩:=f;unfold zBT;refine yA (zCp g ?_);refine yA (y4 ?_);refine yA (zB0 i l ?_);refine yA ?_;rw[<-Array.forIn_toList];refine zBJ _ (λb r d=>r.1=none/\d=s/\∀v∈b,zBS v=true) _ ?_ ?_ _ _ ⟨rfl,rfl,k.byValue⟩
 ·rintro v b r d ⟨e,rfl,j⟩;rw[DM _ (by ext)];exact y4 (by ext)
 ·rintro⟨p,m⟩ d ⟨e,rfl,_⟩;cases e;exact y4 h
theorem SG {ks:List K}{x:M1}{ys:List Value}{Q:Bool->VV->Prop}(m:zAH knd s.heap ks x)(o:∀v∈ys,∃a d,v=.ref a/\zAH knd s.heap d a)(h:Q false s) : zAC (zAD prog w) A (searchCouldBeSeen (.ref x) ys) Q E s:=by
 refine yA ?_;refine zBJ _ (λb r f=>r.1=none/\f=s/\∀v∈b,∃a d,v=.ref a/\zAH knd s.heap d a) _ ?_ ?_ _ _ (by ext)
 ·rintro v b r f ⟨l,rfl,i⟩;obtain⟨a,d,rfl,k⟩:=i v zAc;have g:(λr e=>match r with | ForInStep.yield j=>(λb r e=>r.1=none/\e=f/\∀v∈b,∃a d,v=.ref a/\zAH knd f.heap d a) b j e | .done j=>zAC (zAD prog w) A (match j.1 with | none=>pure false | some a=>pure a) Q E e) (ForInStep.yield (none,())) f:=⟨rfl,rfl,(by ext)⟩;by_cases c:(x == a||(zBS (.ref x)&&zBS (.ref a)))=true
  ·rw[v6 c];exact y4 g
  ·rw[xI c];refine yA (wpAny_eqIsQuiet_tuple m ?_);refine yA (wpAny_eqIsQuiet_tuple k ?_);refine yA (uS m ?_);refine yA (uS k ?_);exact y4 g
 ·rintro⟨n,p⟩ f ⟨l,rfl,_⟩;cases l;exact y4 h
noncomputable def ent (knd:KeyKind prog w K)(p:M1 × List K):Int × Value:=(zAJ knd p.2,.ref p.1)
noncomputable def hsh (knd:KeyKind prog w K)(p:M1 × List K):Int:=zAJ knd p.2
theorem DN (knd:KeyKind prog w K)(ps:List (M1 × List K))(i:Nat):(ps.map (ent knd)).toArray[i]?=(ps[i]?).map (ent knd):=by simp
theorem QM (t:SetTable):t.sameMemory t.moves t.mask=some true:=by unfold SetTable.sameMemory;simp
theorem KA {t:SetTable}(h:j∈t.place.toList):∃i:Nat,t.place[i]?=some j:=by obtain⟨i,a⟩:=zCt.mp h;exact⟨i,by simpa using a⟩
theorem MW (d:c=true->∀a:Bool->VV->Prop,a false s->zAC (zAD prog w) A X a E s)(e:zAC (zAD prog w) A R Q E s) : zAC (zAD prog w) A (if c=true then (do let b <-X; if b=true then U else R) else R) Q E s:=by
 by_cases h:c=true
 ·rw[v6 h];refine yA (d h _ ?_);symm
 ·rw[xI h];symm
theorem search {S x:M1}{o:Obj}{ep:Nat}{t:SetTable}{ps:List (M1 × List K)}{ks:List K}{h:Int}{N:Nat}{Q:SetFound->VV->Prop}(hu:A.units < zAN)(ho:s.heap.get? S=some o) (hd:o.data=.set (ps.map (ent knd)).toArray ep t) (H:m9 t (ps.map (hsh knd))) (Z:t.gaveWay=false) (X:h=zAJ knd ks)(I:∀p∈ps,zAH knd s.heap p.2 p.1) (hx:zAH knd s.heap ks x)(hN:N < 10 * SetTable.turns t.mask) (free:(pr t.mask h N).j∉t.place.toList) (U:∀k,k < N->(pr t.mask h k).j∈t.place.toList)(yes:(∃p∈ps,p.2=ks)->Q (.there none) s) (no:(∀p∈ps,p.2≠ks)->Q (.free (pr t.mask h N).j false) s) : ∀(d n b:Nat) (a:Option SetTable.Probe),N - n=d->n<=N->d < b->a.getD (t.probeStart h)=pr t.mask h n->(∀(i:Nat) (p:M1 × List K),ps[i]?=some p->p.2=ks->∀k,k < n->t.place[i]?≠some (pr t.mask h k).j)->zAC (zAD prog w) A (setSearchFrom S (.ref x) h true b a) Q E s:=by
 have F:t.fits (ps.map (ent knd)).toArray.size=true:=by have Y:=H.size;have h2:=H.room;simp only [SetTable.fits,SetTable.fill,H.plain.HE,zAp,beq_iff_eq,zAu];ext
 have hAt:∀(i:Nat) (p:M1 × List K),ps[i]?=some p->(((ps.map (ent knd)).toArray[i]?).map (·.1)).getD 0=zAJ knd p.2:=λi p e=>by rw[DN,e]; rfl
 have T:∀(i j:Nat),t.place[i]?=some j->∃p,ps[i]?=some p:=λi j e=>by
  have G:i < t.place.size:=by grind
  have Y:=H.size;simp only [zBp,yB] at Y;ext
 intro d;induction d using Nat.strongRecOn with| _ d ih=>
  intro n b a hdn hnN hf W V;obtain⟨f,rfl⟩:∃f,b=f+1:=⟨b - 1,by lia⟩;unfold setSearchFrom;refine yA (zBe ho hd F ?_);dsimp only;simp only [Z,zBa,zC2];have M:(pr t.mask h (n+(N - n))).j∉t.place.toList\/∃(i:Nat) (p:M1 × List K),t.place[i]?=some (pr t.mask h (n+(N - n))).j/\ps[i]?=some p/\zAJ knd p.2=h:=.inl (by grind);haveI:DecidablePred λe:Nat=>(pr t.mask h (n+e)).j∉t.place.toList\/∃(i:Nat) (p:M1 × List K),t.place[i]?=some (pr t.mask h (n+e)).j/\ps[i]?=some p/\zAJ knd p.2=h:=λ_=>Classical.propDecidable _;obtain⟨e,he,stop,l⟩:=least (p:=λe:Nat=>(pr t.mask h (n+e)).j∉t.place.toList\/∃(i:Nat) (p:M1 × List K),t.place[i]?=some (pr t.mask h (n+e)).j/\ps[i]?=some p/\zAJ knd p.2=h) (N - n) M;have J:∀k,k < e->∃i,t.slot (pr t.mask h (n+k)).j=.live i/\((((ps.map (ent knd)).toArray[i]?).map (·.1)).getD 0 == h)=false:=λk hk=>by obtain⟨i,G⟩:=KA (U (n+k) (by grind));obtain⟨p,r⟩:=T i _ G;refine⟨i,vn H.plain G,?_⟩;grind
  by_cases c:(pr t.mask h (n+e)).j∈t.place.toList;·
   obtain⟨i,p,G,r,hph⟩:∃(i:Nat) (p:M1 × List K),t.place[i]?=some (pr t.mask h (n+e)).j/\ps[i]?=some p/\zAJ knd p.2=h:=by grind
   have hlt:n+e < N:=by
    rcases lt_or_ge (n+e) N with q | q;·symm
    ·have:n+e=N:=by grind
     grind
   have L:∀g:Nat->Int,(∀i,g i=(((ps.map (ent knd)).toArray[i]?).map (·.1)).getD 0)->t.probe g h (a.getD (t.probeStart h))=some (.candidate (pr t.mask h (n+e)).j i (pr t.mask h (n+e+1))):=λg hg=>by obtain rfl:g=λi=>(((ps.map (ent knd)).toArray[i]?).map (·.1)).getD 0:=funext hg;rw[W];exact HJ e _ n (by lia) J (vn H.plain G) (by grind)
   rw[L];rotate_left;·intro i; rfl
   dsimp only;have D:p∈ps:=j1 r;refine MW (λ_ Q' q'=>SG hx (λv hv=>?_) q') ?_
   ·obtain⟨y,hy,rfl⟩:=xL.mp hv;have zo:y∈(ps.map (ent knd)):=by have:=zCh.mp hy;have:=(Array.mem_filter.mp this).1;simpa using this
    obtain⟨R,m,rfl⟩:=xL.mp zo;exact⟨R.1,R.2,rfl,I R m⟩
   rw[DN,r];dsimp only [map_some,ent];refine yA (zBg (wpAny_eqBool_tuple hu (I p D) hx ?_));refine yA (zBe ho hd F ?_);dsimp only;by_cases u:p.2=ks
   ·rw[j2 u];simp only [Bool.and_self,if_true];exact y4 (yes ⟨p,D,u⟩)
   ·rw[zAx u];simp only [Bool.and_false,zBa,zC2];rw[QM];dsimp only;rw[v6 rfl,vn H.plain G];dsimp only;rw[DN,r];dsimp only [map_some,ent];refine yA (wpAny_isSame_ref_self (yA (y4 ?_)));rw[v6 rfl];dsimp only;refine ih (N - (n+e+1)) (by grind) (n+e+1) f _ rfl ‹_› (by grind) rfl λi' R m P k hk=>?_;by_cases c1:k < n;·exact V i' R m P k c1
    ·by_cases c2:k < n+e
     ·intro z;have:=l (k - n) (by grind);rw[show n+(k - n)=k by grind] at this;exact this (.inr ⟨i',R,z,m,by rw[P,X]⟩)
     ·have:k=n+e:=by lia
      subst this;intro z;have e1:=pJ H.plain.rise z;have e2:=pJ H.plain.rise G;have:i'=i:=by lia
      subst this;rw[r] at m;cases m;exact u P
  ·
   have L:∀g:Nat->Int,(∀i,g i=(((ps.map (ent knd)).toArray[i]?).map (·.1)).getD 0)->t.probe g h (a.getD (t.probeStart h))=some (.empty (pr t.mask h (n+e)).j none):=λg hg=>by obtain rfl:g=λi=>(((ps.map (ent knd)).toArray[i]?).map (·.1)).getD 0:=funext hg;rw[W];exact DJ e _ n (by grind) J (Jq H.plain c)
   rw[L];rotate_left;·intro i; rfl
   dsimp only;have hNe:n+e=N:=by
    rcases lt_or_ge (n+e) N with q | q;·exact absurd (U _ q) c
    ·lia
   rw[hNe];refine y4 (no λp D u=>?_);obtain⟨i,r⟩:=zCt.mp D;have hz:∃j,t.place[i]?=some j/\(j,hsh knd p)∈t.place.toList.zip (ps.map (hsh knd)):=by have Y:=H.size;simp only [zBp,yB] at Y;have G:i < ps.length:=(q0.mp r).1;refine⟨t.place[i]'(by lia),zA5 _,zCt.mpr ⟨i,?_⟩⟩;rw[List.getElem?_zip_eq_some];refine⟨by simp [show i < t.place.size by lia],?_⟩;rw[v3,r];rfl
   obtain⟨j,hj,ZE⟩:=hz;obtain⟨B,e0,b0⟩:=H.reach _ ZE;have C:(pr t.mask h B).j=j:=by
    have:hsh knd p=h:=by unfold hsh; rw[u,X]
    rw[this] at e0;exact e0
   have ZF:∀k,k < B->(pr t.mask h k).j∈t.place.toList:=λk hk=>by
    have:hsh knd p=h:=by unfold hsh; rw[u,X]
    rw[this] at b0;exact b0 k hk
   have jm:j∈t.place.toList:=by have:=Array.mem_of_getElem? hj;exact zCh.mpr this
   have hn0:B < N:=by
    rcases Nat.lt_trichotomy B N with q | q | q;·exact q
    ·rw[q] at C; rw[C] at free; exact absurd jm free
    ·exact absurd (ZF N q) free
   by_cases c1:B < n;·exact V i p r u B c1 (by rw[C]; exact hj)
   ·have:=l (B - n) (by lia);rw[show n+(B - n)=B by lia] at this;exact this (.inr ⟨i,p,by rw[C]; exact hj,r,by rw[u,X]⟩)
noncomputable def gI (m n:Nat):Prop:=(m=7/\n < 5)\/(m=31/\n < 19)\/(m=127/\n < 77)
theorem gI.whole (h:gI m n):gG m:=by
 rcases h with ⟨rfl,_⟩ | ⟨rfl,_⟩ | ⟨rfl,_⟩;·exact Kv
 ·exact QJ
 ·exact MV
theorem gI.odd {t:SetTable}(h:gI t.mask n):t.gaveWay=false:=by unfold SetTable.gaveWay;rcases h with ⟨e,_⟩ | ⟨e,_⟩ | ⟨e,_⟩ <;> rw[e] <;> rfl
noncomputable def gr (knd:KeyKind prog w K)(h:Heap)(S:M1)(ps:List (M1 × List K)):Prop:=∃o a t,h.get? S=some o/\o.ExactSet/\o.data=.set (ps.map (ent knd)).toArray a t/\m9 t (ps.map (hsh knd))/\(t.plain=true/\t.led=!w.params.followText "set-order")/\gI t.mask ps.length/\(ps.map (·.2)).Nodup
noncomputable def xq (knd:KeyKind prog w K):Prop:=∀(n:Nat) (k:K) (v:Value),knd.is k v=true->zDN n v=pure true
theorem GK (b:xq knd)(c:ItemsAre knd ks vs):∀v∈vs,∀n,zDN n v=pure true:=by induction c with| nil=>simp| cons d _ e=>
  intro v a n;rcases u1.mp a with rfl | a;·exact b n _ _ d
  ext
theorem CZ (i:xq knd){ks:List K}{a:M1}{Q:Bool->VV->Prop}(f:zAH knd s.heap ks a)(h:Q true s):zAC (zAD prog w) A (zDN 8 (.ref a)) Q E s:=by
 have j:=f.typeIs;obtain⟨o,c,n,l,_,m,k⟩:=f;refine yA (zCJ j F.slot_tuple_hash.lookup ?_);refine yA (zB0 l m ?_);refine yA ?_;rw[<-Array.forIn_toList];refine zBJ _ (λb r d=>r.1=none/\d=s/\∀v∈b,∀n,zDN n v=pure true) _ ?_ ?_ _ _ ⟨rfl,rfl,GK i k⟩
 ·rintro v b r d ⟨g,rfl,e⟩;rw[e v zAc];exact y4 (by ext)
 ·rintro⟨q,p⟩ d ⟨g,rfl,_⟩;cases g;exact y4 h
noncomputable def picked (ps:List (M1 × List K))(a:List Nat):List (M1 × List K):=a.filterMap (ps[·]?)
theorem iF {β:Type}(f:M1 × List K->β)(ps:List (M1 × List K))(d:β):∀(a:List Nat),(∀q∈a,q < ps.length)->(picked ps a).map f=a.map λq=>(ps.map f).getD q d| [],_=>rfl| q::r,h=>by have b:=iF f ps d r (by ext);unfold picked at b ⊢;ext
theorem Jr (ps:List (M1 × List K))(a:Array Nat):(a.filterMap λq=>(ps.map (ent knd)).toArray[q]?)=((picked ps a.toList).map (ent knd)).toArray:=by apply Array.toList_inj.mp;rw[Array.toList_filterMap];unfold picked;grind
theorem Js (g:a.Nodup)(i:a.length=ps.length)(h:∀q∈a,q < ps.length){p:M1 × List K}:p∈picked ps a↔p∈ps:=by
 unfold picked;rw[List.mem_filterMap];constructor
 ·rintro⟨q,_,e⟩;exact j1 e
 ·intro d;obtain⟨q,e⟩:=zCt.mp d;have f:q < ps.length:=(q0.mp e).1;refine⟨q,?_,e⟩;by_cases c:q∈a;·exact c
  ·have:=gH (l2:=(range ps.length).erase q) g λx b=>(List.mem_erase_of_ne (λ(z:x=q)=>c (z ▸ b))).mpr (zAk.mpr (h x b));rw[List.length_erase_of_mem (zAk.mpr f),zBn] at this;lia
theorem DO {ps:List (M1 × List K)}(h:c.Nodup)(g:∀q∈c,q < ps.length)(k:(ps.map (·.2)).Nodup):((picked ps c).map (·.2)).Nodup:=by
 rw[List.Nodup,zAh];refine List.Pairwise.filterMap _ ?_ h;intro a b d x n y i e;have j:=n;have g:=i;apply d;have f:(ps.map (·.2))[a]?=some x.2:=by rw[v3,j]; rfl
 have l:(ps.map (·.2))[b]?=some x.2:=by rw[v3,g,e]; rfl
 have m:=(q0.mp f).1;exact (List.getElem?_inj m k).mp (f.trans l.symm)
theorem HK {h:Heap}(b:h.get? S=some o)(c:o.data=.set es ep t)(a:Array (Int × Value))(t':SetTable) :(h.update S (Obj.putSet a t')).get? S=some { o with data:=.set a (ep+1) t' }:=by have e:=putSet_of a t' c;rw[zBs _ b (by rw[e]; rfl),e]
theorem WB {S:M1}{o:Obj}{ep b m:Nat}{t:SetTable}{ps:List (M1 × List K)}{Q:Unit->VV->Prop}(l:s.heap.get? S=some o)(k:o.ExactSet)(j:o.data=.set (ps.map (ent knd)).toArray ep t)(H:m9 t (ps.map (hsh knd)))(I:t.plain=true/\t.led=!w.params.followText "set-order")(B:(ps.map (·.2)).Nodup) (y:SetTable.sizeAbove b=m+1) (x:gI m ps.length) (F:ps.length<=m)(h:∀h' d,Heap.SameBut S s.heap h'->gr knd h' S d->(∀p,p∈d↔p∈ps)->d.length=ps.length->Q () { s with heap:=h' }):zAC (zAD prog w) A (setRelay S b) Q E s:=by
 have i:t.fits (ps.map (ent knd)).toArray.size=true:=by have P:=H.size;have N:=H.room;simp only [SetTable.fits,SetTable.fill,H.plain.HE,zAp,beq_iff_eq,zAu];ext
 have n:m<=127:=by rcases x with ⟨rfl,_⟩ | ⟨rfl,_⟩ | ⟨rfl,_⟩ <;> decide
 unfold setRelay;refine yA (zBe l j i ?_);dsimp only;rw[xI (by rw[y,u4]; lia)];obtain⟨u,a,e,G,O,M,L,z,v,g,J⟩:=Kz x.whole t.finger (t.movedTo m) t.led t.plain (ps.map (hsh knd)) (by ext);rw[yB] at z g;have C:t.relaid ((ps.map (ent knd)).toArray.map (·.1)) b=some (u,a):=by
  unfold SetTable.relaid;rw[y];have:(ps.map (ent knd)).toArray.map (·.1)=(ps.map (hsh knd)).toArray:=by apply Array.toList_inj.mp;simp [hsh,ent]
  grind
 rw[C];have r:=Jr (knd:=knd) ps a;have c:(picked ps a.toList).length=ps.length:=by have:=zAz length (iF (λp=>p) ps (default:M1 × List K) a.toList g);ext
 have f:∀p,p∈picked ps a.toList↔p∈ps:=λp=>Js v z g;have D:m9 u ((picked ps a.toList).map (hsh knd)):=by rw[iF (hsh knd) ps 0 a.toList g];symm
 refine yA ?_;show zAC (zAD prog w) A (if ((a.filterMap λq=>(ps.map (ent knd)).toArray[q]?).size != (ps.map (ent knd)).toArray.size)=true then _ else pure (_,_)) _ E s;rw[r,xI (by ext)];refine y4 ?_;dsimp only;refine wpAny_storeSet_of l j ?_ (by rw[u4]; grind);refine h _ (picked ps a.toList) (zB8 _ _ _) ?_ f c;exact⟨_,ep+1,u,HK l j _ _,k,rfl,D,by ext,by rw[G,c]; symm,DO v g B⟩
theorem gI.next {t:SetTable}(h:gI t.mask n)(f:n < 76)(g:t.place.size=n+1)(b:t.dummies=#[]):(t.tooFull=false->gI t.mask (n+1))/\(t.tooFull=true->∃m,SetTable.sizeAbove (SetTable.grown (n+1))=m+1/\gI m (n+1)/\n+1<=m):=by
 have a:t.fill=n+1:=by unfold SetTable.fill; ext
 unfold SetTable.tooFull;unfold gI at h ⊢;rcases h with ⟨e,h⟩ | ⟨e,h⟩ | ⟨e,h⟩
 ·constructor;·grind
  ·intro c;have d:(n+1) * 5 >= 7 * 3:=by ext
   have:n=4:=by lia
   subst this;exact⟨31,by decide,(by simp),by simp⟩
 ·constructor;·grind
  ·intro c;have d:(n+1) * 5 >= 31 * 3:=by ext
   have:n=18:=by lia
   subst this;exact⟨127,by decide,(by simp),by simp⟩
 grind
theorem gI.room (h:gI m n):n+1<=m:=by rcases h with ⟨rfl,_⟩ | ⟨rfl,_⟩ | ⟨rfl,_⟩ <;> lia
theorem DP {α β:Type}(f:α->β)(l:List α)(p:Nat)(x:α)(h:p<=l.length):SetTable.insertAt (l.map f).toArray p (f x)=((l.take p++x::l.drop p).map f).toArray:=by apply Array.toList_inj.mp;rw[uR _ _ _ (by ext)];simp
theorem add {S x:M1}{ps:List (M1 × List K)}{ks:List K}{Q:Bool->VV->Prop}(hb:xq knd)(hu:A.units < zAN)(Z:gr knd s.heap S ps)(y:∀p∈ps,zAH knd s.heap p.2 p.1)(X:zAH knd s.heap ks x)(hn:ps.length < 76)(h:∀b h' a,Heap.SameBut S s.heap h'->gr knd h' S a->(∀p,p∈a->p∈ps\/p=(x,ks))->(∀p∈ps,p∈a)->(∃p∈a,p.2=ks)->a.length<=ps.length+1->Q b { s with heap:=h' }) : zAC (zAD prog w) A (setAddHashed S (.ref x) (zAJ knd ks)) Q E s:=by
 obtain⟨o,ep,t,B,I,D,H,k,J,hk⟩:=id Z;have r:t.fits (ps.map (ent knd)).toArray.size=true:=by have h1:=H.size;have h2:=H.room;simp only [SetTable.fits,SetTable.fill,H.plain.HE,zAp,beq_iff_eq,zAu];ext
 unfold setAddHashed;refine zBg ?_;unfold setAddHashedIn;refine yA (zBe B D r ?_);dsimp only;have T:byScan (.ref x) (ps.map (ent knd)).toArray=false:=rfl;rw[T];simp only [zBa,zC2];obtain⟨N,hN,u,G⟩:=H.first (zAJ knd ks);have htb:SetTable.turns t.mask<=142:=by unfold SetTable.turns;rcases J with ⟨e,_⟩ | ⟨e,_⟩ | ⟨e,_⟩ <;> ext
 unfold setSearch;refine yA (search (ks:=ks) (x:=x) hu B D H J.odd rfl y X hN u G (λU=>?_) (λno=>?_) N 0 100000 none (by simp) (zAb _) (by lia) rfl (by ext))
 ·dsimp only;refine y4 ?_;have:=h false s.heap ps ⟨rfl,λ_ _=>rfl⟩ Z (by ext) (by simp) U (by simp);symm
 ·dsimp only;refine yA (zBe B D r ?_);dsimp only;have hj:=(DI t.mask (zAJ knd ks) N).1;obtain⟨b1,b2,b3,b4,H2⟩:=H.put u hj ⟨N,rfl,G⟩ (by rw[yB]; exact J.room);rw[yB] at b1 b3;have v:(t.put (pr t.mask (zAJ knd ks) N).j).1.plain=true/\(t.put (pr t.mask (zAJ knd ks) N).j).1.led=!w.params.followText "set-order":=k;rw[v.1];simp only [if_true];refine yA (CZ hb X ?_);simp only [if_true];have O:SetTable.insertAt (ps.map (ent knd)).toArray (t.put (pr t.mask (zAJ knd ks) N).j).2 (zAJ knd ks,Value.ref x)=((ps.take (t.put (pr t.mask (zAJ knd ks) N).j).2++(x,ks)::ps.drop (t.put (pr t.mask (zAJ knd ks) N).j).2).map (ent knd)).toArray:= DP (ent knd) ps _ (x,ks) b1;rw[O];generalize hp2:(t.put (pr t.mask (zAJ knd ks) N).j).2=q at *;have H3:m9 (t.put (pr t.mask (zAJ knd ks) N).j).1 ((ps.take q++(x,ks)::ps.drop q).map (hsh knd)):=by
   have e:(ps.take q++(x,ks)::ps.drop q).map (hsh knd)=(ps.map (hsh knd)).take q++zAJ knd ks::(ps.map (hsh knd)).drop q:=by rw[v4,zAw,map_take,List.map_drop];rfl
   rw[e];symm
  generalize n:ps.take q++(x,ks)::ps.drop q=a at *;have f:a.length=ps.length+1:=by grind
  have i:∀p,p∈a↔p=(x,ks)\/p∈ps:=λp=>by rw[<-n]; exact xj
  have F:(a.map (·.2)).Nodup:=by
   rw[<-n,v4,zAw,map_take,List.map_drop];have Xb:ks∉ps.map (·.2):=λz=>by grind
   have sp:((ps.map (·.2)).take q++(ps.map (·.2)).drop q).Nodup:=by ext
   grind
  generalize acJ:(t.put (pr t.mask (zAJ knd ks) N).j).1=C at *;have P:(a.map (ent knd)).toArray.size<=PK:=by rw[u4]; simp [f]; lia
  refine yA (wpAny_storeSet_of B D ?_ P);have g:gI C.mask ps.length:=by rw[b2]; exact J
  obtain⟨n1,n2⟩:=g.next hn b3 b4;have l:=HK B D (a.map (ent knd)).toArray C;have d:(∀p,p∈a->p∈ps\/p=(x,ks))/\(∀p∈ps,p∈a)/\(∃p∈a,p.2=ks):=⟨λp k=>((i p).mp k).symm,λp k=>(i p).mpr (.inr k),(x,ks),(i _).mpr (.inl rfl),rfl⟩;have V:(ps.map (ent knd)).toArray.size+1=ps.length+1:=by simp
  cases c:C.tooFull with| false=> simp only [Bool.not_false,Bool.and_false,zBa,zC2];refine y4 ?_;refine h true _ a (zB8 _ _ _) ?_ d.1 d.2.1 d.2.2 (by ext);exact⟨_,ep+1,C,l,I,rfl,H3,v,by rw[f]; exact n1 c,F⟩| true=> simp only [Bool.not_false,Bool.and_self,if_true];obtain⟨m,w1,w2,w3⟩:=n2 c;rw[V];refine yA (WB (s:={ s with heap:=s.heap.update S (Obj.putSet (a.map (ent knd)).toArray C) }) l I rfl H3 v F w1 (by rw[f]; exact w2) (by rw[f]; exact w3) λh' R sb L g hl2=>?_);refine y4 ?_;obtain⟨Y,M,W⟩:=d.2.2;refine h true h' R ((zB8 _ _ _).trans sb) L (λp k=>d.1 p ((g p).mp k)) (λp k=>(g p).mpr (d.2.1 p k)) ⟨Y,(g Y).mpr M,W⟩ (by ext)
end
open PySem.Spec
section
variable {prog:zAA}{w:zAE}{K:Type}[DecidableEq K]{knd:KeyKind prog w K}{A:zAI}{E:zzE}{s:VV}
theorem iT (x:zAH knd h ks a)(k:∀o,h.get? a=some o->h'.get? a=some o):zAH knd h' ks a:=by obtain⟨o,b,n,c,r⟩:=x;exact⟨o,b,n,k o c,r⟩
theorem gr.ne (x:gr knd h S ps)(y:zAH knd h ks a):a≠S:=by rintro rfl;obtain⟨o,_,_,e,d,_⟩:=x;obtain⟨f,_,_,b,c,_⟩:=y;rw[e] at b;cases b;rw[d.1] at c;exact absurd c (by decide)
theorem gr.at_ (x:gr knd h S ps)(k:∀o,h.get? S=some o->h'.get? S=some o):gr knd h' S ps:=by obtain⟨o,b,t,a,r⟩:=x;exact⟨o,b,t,k o a,r⟩
noncomputable def DQ (xs:List (M1 × List K))(M:Nat):Prop:=∀l:List (List K),l.Nodup->(∀k∈l,∃p∈xs,p.2=k)->l.length<=M
theorem DQ.ps {xs ps:List (M1 × List K)}(f:DQ xs M)(b:(ps.map (·.2)).Nodup)(sub:∀p∈ps,p∈xs):ps.length<=M:=by
 have:=f _ b λk c=>by obtain⟨p,a,rfl⟩:=xL.mp c;exact⟨p,sub p a,rfl⟩
 rwa [yB] at this
variable {I:M1}{fp wr:List M1}{n:Nat}{P:Nat->Value->Prop}{St:Nat->Heap->Prop}{R:Result->VV->Prop}
theorem QN (W:Walks prog w A.in1 I fp wr n P St)(S:M1)(D:S∉fp){xs:List (M1 × List K)}(hn:xs.length=n)(y:∀(i:Nat) (v:Value),P i v->∃p,xs[i]?=some p/\v=.ref p.1)(hw:∀p∈xs,p.1∉wr)(m:xq knd) (hu:A.in1.units < zAN) (T:DQ xs 75) : ∀(k i:Nat) (s:VV) (ps:List (M1 × List K)),n - i=k->i<=n->St i s.heap->gr knd s.heap S ps->(∀p∈xs,zAH knd s.heap p.2 p.1)->(∀p∈ps,p∈xs)->(∀p∈xs.take i,∃q∈ps,q.2=p.2)->(∀h' G u,(∀b o,b≠S->b∉wr->s.heap.get? b=some o->h'.get? b=some o)->gr knd h' S u->(∀p∈u,p∈xs)->(∀p∈xs,∃q∈u,q.2=p.2)->R (.ok (.ret .none)) { s with heap:=h',toks:=G })-> zBK (zAD prog w) A (.builtin "set.update.loop" ⟨[.ref S,.ref I],[]⟩) R s:=by
 have H:S∉wr:=λh=>D (W.sub _ h);intro k;induction k with| zero=>
  intro i s ps hk hi t L l g j M;obtain rfl:i=n:=by lia
  refine zBq PyProof.Rows.F.entry_set_update_loop ?_;rw[zBj PyProof.Rows.F.plain_set_update_loop _];show zAC _ A.in1 (zBU (.ref I) >>= _) _ _ s;refine yA (W.done s _ _ t λh' G x=>?_);show zAC _ A.in1 (ret Value.none) _ _ _;refine y4 (M h' G ps (λb o _ m e=>x b o m e) (L.at_ λo e=>x S o H e) g ?_);rw[<-hn,zAd] at j;exact j| succ k ih=>
  intro i s ps hk hi t L l g j M;have B:i < n:=by lia
  refine zBq PyProof.Rows.F.entry_set_update_loop ?_;rw[zBj PyProof.Rows.F.plain_set_update_loop _];show zAC _ A.in1 (zBU (.ref I) >>= _) _ _ s;refine yA (W.item i s _ _ B t λv h' G hP F x=>?_);obtain⟨p,hp,rfl⟩:=y i v hP;have r:p∈xs:=j1 hp;have C:gr knd h' S ps:=L.at_ λo e=>x S o H e;have c:∀q∈xs,zAH knd h' q.2 q.1:=λq d=>iT (l q d) λo e=>x _ o (hw q d) e;show zAC _ A.in1 (zBV [Value.ref p.1] (setAdd S (.ref p.1)) >>= _) _ _ _;refine yA (zBg ?_);unfold setAdd;refine zBg ?_;refine yA (wpAny_pyHash_tuple hu (c p r) ?_);have Z:ps.length<=75:=T.ps (let ⟨_,_,_,_,_,_,_,_,_,nd⟩:=L; nd) g;refine add (s:={ s with heap:=h',toks:=G+(p.2.length+1) }) m hu C (λq d=>c q (g q d)) (c p r) (by lia) λb h2 N sb Q m1 m2 m3 hl=>?_;have f:∀b o,b≠S->h'.get? b=some o->h2.get? b=some o:=λb o m e=>(sb.2 b m).trans e;refine y4 ⟨zCw PyProof.Rows.F.plain_set_update_loop _,ih (i+1) _ N (by grind) B (W.frame _ _ _ F λb m o e=>?_) Q (λq d=>iT (c q d) λo e=>f _ o (C.ne (c q d)) e) (λq d=>?_) (λq d=>?_) λh3 Y O kp X s3 a3=>?_⟩;·exact f b o (λ(h:b=S)=>D (h ▸ m)) e
  ·rcases m1 q d with z | z;·exact g q z
   ·rw[z]; exact r
  ·have V:xs.take (i+1)=xs.take i++[p]:=by rw[zAm,hp]; rfl
   rw[V] at d;rcases w8.mp d with z | z
   ·obtain⟨q',U,e⟩:=j q z;exact⟨q',m2 q' U,e⟩
   ·rw[wP.mp z]; exact m3
  ·exact M h3 Y O (λb o h1 J e=>kp b o h1 J (f b o h1 (x b o J e))) X s3 a3
end
section
variable {prog:zAA}{w:zAE}{K:Type}[DecidableEq K]{knd:KeyKind prog w K}{A:zAI}{E:zzE}{s:VV}
theorem QO {led:Bool}(f:led=!w.params.followText "set-order")(e:h.get? S=some { cls:=.type "set",dict:=none,data:=.set #[] 0 (.fresh 0 0 led) }):gr knd h S []:=by
 refine⟨_,0,.fresh 0 0 led,e,⟨rfl,rfl,rfl⟩,rfl,⟨⟨?_,rfl⟩,Kv,rfl,?_,?_,?_⟩,⟨rfl,f⟩,.inl ⟨rfl,by show 0 < 5; decide⟩,nodup_nil⟩
 ·intro a b _ c;exact absurd c (by show ¬ b < 0; simp)
 ·intro j d; cases d
 ·exact zAb _
 ·intro x g; cases g
theorem QS (a:Value){Q:zzE}(h:Q (.ref s.heap.objs.size) { s with heap:=s.heap.push { cls:=.type "set",dict:=none,data:=.set #[] 0 (.fresh 0 0 (!w.params.followText "set-order")) } }) : zBK (zAD prog w) A (.call (.builtin "set.__new__") ⟨[.type "set",a],[]⟩) (wants Q E) s:=by refine codeAny_of_tree ?_;show zAC _ A.in1 (checkBuiltinCall "set.__new__" ⟨[.type "set",a],[]⟩ >>= λ_=>again (.builtin "set.__new__" ⟨[.type "set",a],[]⟩)) _ _ s;refine yA (wpAny_of_eq (F.newCall_set_1 a) (y4 ⟨zCw F.plain_set_new _,zBq F.entry_set_new ?_⟩));rw[zBj F.plain_set_new _];unfold Builtin.«set.__new__» Builtin.Frozenset.newClass;have b:=sub_set_self;obtain⟨c,g,d,e,os⟩:=s;dsimp only;wp_walk;refine zDE (y4 ?_);dsimp only;simp only [newObj];exact yA (wpAny_alloc (y4 (y4 h)))
set_option maxHeartbeats 3200000 in theorem MX {l:M1}{xs:List (M1 × List K)}{Q:zzE}(hh:A.handled=none)(hl:s.heap.IsList l (xs.map λp=>Value.ref p.1).toArray)(tups:∀p∈xs,zAH knd s.heap p.2 p.1)(hb:xq knd)(hu:A.units+8 < zAN)(few:DQ xs 75)(h:∀(h':Heap) (tk:Nat) (ps:List (M1 × List K)),gr knd h' s.heap.objs.size ps->(∀p∈ps,p∈xs)->(∀p∈xs,∃q∈ps,q.2=p.2)->(∀b o,s.heap.get? b=some o->h'.get? b=some o)->Q (.ref s.heap.objs.size) { s with heap:=h',toks:=tk }) : zAC (zAD prog w) A (call (.type "set") [.ref l]) Q E s:=by
 have c1:=F.called_set.mro;obtain⟨c,tl,acK⟩:=c1;have hmade:=F.called_set.made;have hsub:=F.called_set.sub;refine wpAny_call (codeAny_of_tree ?_);show zAC _ _ (callAny (.type "set") _) _ _ _;refine y4 ⟨Code.quiet_builtin _ (by decide +kernel),zBq F.entry_type_call ?_⟩;rw[Around.under_plain (weight_type_call_type "set" [.ref l] []) rfl];have h1:=F.called_set.notType;have h2:=F.called_set.canCreate;have hct:=F.typeCall_set_1 (.ref l);repeat (any_goals (first | assumption | wp_step))
 refine zBW (QS (.ref l) (E:=E) (Q:=λobj s₁=>∃led:Bool,led=(!w.params.followText "set-order")/\obj=.ref s.heap.objs.size/\s₁={ s with heap:=s.heap.push { cls:=.type "set",dict:=none,data:=.set #[] 0 (.fresh 0 0 led) } }) ⟨_,rfl,rfl,rfl⟩) λr s₁ hr=>?_;match r,hr with
 | .error e,hr=>exact hr| .ok (.ret obj),hr=>
  obtain⟨led,YH,rfl,rfl⟩:=hr;generalize hso:({ cls:=.type "set",dict:=none,data:=.set #[] 0 (.fresh 0 0 led) }:Obj)=so at *;have hS:(s.heap.push so).get? s.heap.objs.size=some so:=u3 _ (by rw[<-hso]; rfl);have hT:Shared.TypeIs { s with heap:=s.heap.push so } (.ref s.heap.objs.size) "set":=⟨_,hS,by rw[<-hso]⟩;have hli:=F.called_set.init.lookup;have hbi:=F.called_set.init.bind (.ref s.heap.objs.size);repeat (any_goals (first | assumption | wp_step))
  refine zBW (codeAny_call_builtin (R:=wants (λr s₂=>r=.none/\∃h' tk,s₂={ s with heap:=h',toks:=tk }/\∃ps,gr knd h' s.heap.objs.size ps/\(∀p∈ps,p∈xs)/\(∀p∈xs,∃q∈ps,q.2=p.2)/\∀b o,s.heap.get? b=some o->h'.get? b=some o) E) F.called_set.init.plain F.entry_set_init (check_set_init_1 hT ?_)) λr₂ s₂ hr₂=>?_
  ·obtain⟨ol,Xc,hcl,nl,hdl⟩:=hl;obtain⟨acL,acG,acH,ZG⟩:=ol;simp only at hcl hdl;subst hcl; subst hdl;have YI:=y1 (h:=s.heap) so Xc;have acM:=F.sub_list_set;have acN:=F.sub_list_frozenset;have hne:(type "list" == type "dict")=false:=by decide
   have hl1:(s.heap.push so).IsList l (xs.map λp=>Value.ref p.1).toArray:=⟨_,YI,rfl,nl,rfl⟩;subst hso;unfold Builtin.«set.__init__» noKeywords Builtin.Frozenset.updateFrom;generalize ZH:zDe=PI;wp_walk;subst ZH;generalize hso:({ cls:=.type "set",dict:=none,data:=.set #[] 0 (.fresh 0 0 led) }:Obj)=so at *;refine zCx hl1 ?_;refine yA (wpAny_runValue ?_);have hlS:l < s.heap.objs.size:=vT Xc;have sz:(s.heap.push so).objs.size=s.heap.objs.size+1:=size_push ..;have YJ:l≠(s.heap.push so).objs.size:=by rw[sz]; exact wE (Nat.lt_succ_of_lt hlS)
   have hSf:s.heap.objs.size∉[(s.heap.push so).objs.size,l]:=by rw[sz];simp only [u1,zBx,zA0,not_or];exact⟨wE (Nat.lt_succ_self _),zCq hlS⟩
   have ZI:∀p∈xs,p.1 < s.heap.objs.size:=λp hp=>let ⟨_,_,_,ho,_⟩:=tups p hp; vT ho;have WC:=y1 (h:=s.heap.push so) { cls:=.type "list_iterator",data:=.fields #[.ref l,.int 0 0] } hS;refine QN (knd:=knd) (Walks.list (by simp [hh]) _ l YJ (xs.map λp=>Value.ref p.1).toArray) s.heap.objs.size hSf (xs:=xs) (by simp) (λi v hv=>?_) (λp hp=>?_) hb (by show A.in1.in1.in1.units < zAN; simp only [Around.in1]; lia) few _ 0 _ [] rfl (zAb _) ⟨⟨_,u3 _ rfl,rfl,rfl⟩,hl1.push _⟩ (QO (led:=led) YH (by rw[hso]; exact WC)) (λp hp=>iT (tups p hp) λo e=>y1 _ (y1 _ e)) (λp hp=>absurd hp (by simp)) (λp hp=>absurd hp (by simp)) λh' tk ps kp hS' m1 m2=>?_
   ·simp at hv;obtain⟨a,⟨b,hp⟩,rfl⟩:=hv;exact⟨(a,b),hp,rfl⟩
   ·rw[sz];have:=ZI p hp;simp only [u1,zBx,zA0];exact wE (Nat.lt_succ_of_lt this)
   ·show zAC _ _ _ _ _ _;refine y4 ?_;show zAC _ _ (ret Value.none) _ _ _;refine y4 ⟨rfl,h',tk,rfl,ps,hS',m1,m2,λb o e=>?_⟩;have hb:=vT e;refine kp b o (wE hb) (by rw[sz]; simp only [u1,zBx,zA0]; exact wE (Nat.lt_succ_of_lt hb)) (y1 _ (y1 _ e))
  ·match r₂,hr₂ with
   | .error e,hr₂=>exact hr₂| .ok (.ret r),hr₂=>
    obtain⟨rfl,h',tk,rfl,ps,hS',m1,m2,kp⟩:=hr₂;repeat (any_goals (first | assumption | wp_step))
    exact h _ _ ps hS' m1 m2 kp
end
namespace SF
theorem slot_next:Slot "set_iterator" "__next__" "set_iterator.__next__":= .of (owner:="set_iterator") (n:="__next__") (by rfl) (by rfl) (by rfl) (by rfl) (by first | exact .inl (by rfl) | exact .inr (by decide +a)) (by rfl)
theorem entry_next:entryFor table "set_iterator.__next__"=some Builtin.«set_iterator.__next__»:=entryFor_of_fast (by kernel_rfl)
theorem args_next (a:Value):argsOk "set_iterator.__next__" ⟨[a],[]⟩:=by kernel_rfl
theorem Jt:entryFor table "set.__iter__"=some Builtin.«frozenset.__iter__»:=entryFor_alias (id':="frozenset.__iter__") (by kernel_rfl) rfl (by decide +kernel) (by kernel_rfl)
end SF
theorem zp {α:Type}:∀(l:List α) (i:Nat) (h:i < l.length),(l[i]::l.eraseIdx i).Perm l| x::a,0,_=>List.Perm.refl _| x::a,i+1,h=>(List.Perm.swap _ _ _).trans ((zp a i _).cons x)
theorem vp (c:Nat->Nat):∀(a k:Nat) (b:List α) (out:Array α),b.length<=a->(pickOrder.go c a k b out).toList.Perm (out.toList++b)| 0,k,b,out,h=>by have:b=[]:=List.length_eq_zero_iff.mp (by ext);subst this;unfold pickOrder.go;simp| a+1,k,[],out,h=>by unfold pickOrder.go;simp| a+1,k,x::e,out,h=>by have d:c k % (x::e).length < (x::e).length:=mod_lt _ (by simp);unfold pickOrder.go;rw[y8 d];refine (vp c a (k+1) _ _ (by rw[List.length_eraseIdx_of_lt d]; simp at h ⊢; symm)).trans ?_;rw[Array.toList_push,List.append_assoc];exact List.Perm.append_left _ (zp _ _ d)
theorem KC (a:Nat->Nat)(xs:Array α):(zDU a xs).toList.Perm xs.toList:=by have:=vp a xs.size 0 xs.toList #[] (by simp);symm
section
variable {prog:zAA}{w:zAE}{K:Type}[DecidableEq K]{knd:KeyKind prog w K}{A:zAI}{E:zzE}{s:VV}
noncomputable def eE (w:zAE)(S:M1)(ep:Nat)(es:Array (Int × Value)):Array (Int × Value):=if w.params.followText "set-order"=true then zDU (w.params.setOrder S ep) es else es
theorem BR (w:zAE)(S:M1)(ep:Nat)(es:Array (Int × Value)):(eE w S ep es).toList.Perm es.toList:=by
 unfold eE;split;·exact KC _ _
 rfl
structure zq (w:zAE)(h:Heap)(I S:M1)(t:SetTable)(n ep i:Nat):Prop where at_:∃slot:Nat,h.get? I=some { cls:=.type "set_iterator",dict:=none,data:=.fields #[zBX slot,zBX i,.ref S,zBX n,zBX ep],slots:=#[] }/\(w.params.followText "set-order"=false->SetTable.below t.place slot=i)
theorem zq.typeIs (x:zq w s.heap I S t n ep i):s.TypeIs (.ref I) "set_iterator":=by obtain⟨a,e,_⟩:=x.at_;exact⟨_,e,rfl⟩
variable {S I:M1}{o:Obj}{es:Array (Int × Value)}{ep:Nat}{t:SetTable}
theorem DR {Q:Bool->VV->Prop}(h:Q (w.params.followText "set-order") s):zAC (zAD prog w) A setsByText Q E s:=by exact yA (zDE (y4 h))
theorem HM {a i:Nat}{Q:Option (Value × Nat)->VV->Prop}(l:s.heap.get? S=some o)(m:o.data=.set es ep t)(k:t.fits es.size=true)(n:yu t.place)(p:t.plain=true)(D:t.led=!w.params.followText "set-order")(r:w.params.followText "set-order"=false->SetTable.below t.place a=i)(f:∀v,((eE w S ep es)[i]?).map (·.2)=some v->∀b,(w.params.followText "set-order"=false->SetTable.below t.place b=i+1)->Q (some (v,b)) s) (g:(eE w S ep es)[i]?=none->Q none s):zAC (zAD prog w) A (setNext S a i ep) Q E s:=by
 have u:=by simp only [SetTable.fits,zAp,beq_iff_eq] at k;omega
 unfold setNext;refine yA (zBe l m k ?_);dsimp only;refine yA (DR ?_);cases c:w.params.followText "set-order" with
 | true=>
  have d:eE w S ep es=zDU (w.params.setOrder S ep) es:=by unfold eE; ext
  rw[d] at f g;simp only [if_true,bne_self_eq_false,zBa,zC2];unfold setWalk;refine yA (yA (zBe l m k ?_));dsimp only;refine yA (DR ?_);rw[c,v6 rfl];refine yA (zDE (y4 ?_));refine y4 ?_;show Q (((zDU (w.params.setOrder S ep) es)[i]?).map λe=>(e.2,a)) s;cases e:(zDU (w.params.setOrder S ep) es)[i]? with| none=>exact g e| some x=>exact f x.2 (by ext) a λz=>by ext
 | false=>
  have d:eE w S ep es=es:=by unfold eE; ext
  rw[d] at f g;have h:t.led=true:=by ext
  have B:=r c;show zAC _ _ (if (!t.plain&&decide (es.size > 1))=true then _ else _) _ _ _;rw[p,xI (by simp)];show zAC _ _ ((if (!t.led&&!es.isEmpty)=true then _ else _) >>= _) _ _ _;rw[h,xI (by simp)];refine yA (y4 ?_);refine y4 ?_;rw[B];cases e:es[i]? with| none=>exact g e| some x=>
   have H:i < es.size:=by grind
   have j:i < t.place.size:=by ext
   rw[zA5 j];refine f x.2 (by ext) _ λ_=>?_;obtain⟨J,y,G⟩:=oU n (t.place[i]+1);have C:t.place.getD i 0=t.place[i]:=by ext
   rcases Nat.lt_trichotomy (SetTable.below t.place (t.place[i]+1)) (i+1) with q | q | q;·grind
   ·symm
   ·have:=y (i+1) q;have F:=n i (i+1) (by simp) (by lia);lia
end
namespace SF
theorem zu:Slot "set_iterator" "__iter__" "set_iterator.__iter__":= .of (owner:="set_iterator") (n:="__iter__") (by rfl) (by rfl) (by rfl) (by rfl) (by first | exact .inl (by rfl) | exact .inr (by decide +a)) (by rfl)
theorem GL:entryFor table "set_iterator.__iter__"=some Builtin.«dict_keyiterator.__iter__»:=entryFor_alias (id':="dict_keyiterator.__iter__") (by kernel_rfl) rfl (by decide +kernel) (by kernel_rfl)
theorem Ju (a:Value):argsOk "set_iterator.__iter__" ⟨[a],[]⟩:=by kernel_rfl
end SF
section
variable {prog:zAA}{w:zAE}{K:Type}[DecidableEq K]{knd:KeyKind prog w K}{A:zAI}{E:zzE}{s:VV}
variable {S I:M1}{o:Obj}{es:Array (Int × Value)}{ep:Nat}{t:SetTable}
structure Calm (w:zAE)(o:Obj)(es:Array (Int × Value))(ep:Nat)(t:SetTable):Prop where
 ex:o.ExactSet
 data:o.data=.set es ep t
 fits:t.fits es.size=true
 rise:yu t.place
 plain:t.plain=true
 led:t.led=!w.params.followText "set-order"
theorem vq (w:zAE)(S:M1)(ep:Nat)(es:Array (Int × Value)):(eE w S ep es).size=es.size:=by have:=(BR w S ep es).length_eq;symm
theorem walks (G:A.handled=none)(I S:M1)(k:S≠I)(C:Calm w o es ep t) : Walks prog w A I [I,S] [I] es.size (λi v=>((eE w S ep es)[i]?).map (·.2)=some v) (λi h=>zq w h I S t es.size ep i/\h.get? S=some o) where
 sub:=λb l=>by ext
 frame:=λi h H f L=>by obtain⟨⟨d,e,z⟩,B⟩:=f;exact⟨⟨d,(by ext),z⟩,(by grind)⟩
 item:=λi s Q E J f j=>by
  obtain⟨it,g⟩:=f;obtain⟨d,e,z⟩:=id it.at_;unfold zBU;refine yA (zDB (zB5 it.typeIs SF.slot_next (zBh SF.slot_next it.typeIs SF.entry_next ?_ (SF.args_next _))));refine yA (y4 ?_);refine yA (wpAny_fieldsOf e rfl ?_);unfold setEntries;refine yA (yA (zBe g C.data C.fits (y4 ?_)));rw[xI (by simp)];refine yA (HM g C.data C.fits C.rise C.plain C.led z (λv n a y=>?_) λx=>?_)
  ·refine yA (zCS e rfl (by simp) ?_);have u:=zBs (Obj.mapFields (·.setIfInBounds 0 (zBX (a:Nat)))) e rfl;refine yA (zCS u rfl (by simp) ?_);have B:=zBs (Obj.mapFields (·.setIfInBounds 1 (zBX ((i:Int)+1)))) u rfl;refine y4 ⟨_,rfl,?_⟩;refine y4 (j v _ s.toks n ⟨⟨a,B,y⟩,?_⟩ λb D l p=>?_);·exact (zA6 _ _ k.symm).trans ((zA6 _ _ k.symm).trans g)
   ·have:I≠b:=λz=>l (by ext);exact (zA6 _ _ this).trans ((zA6 _ _ this).trans p)
  ·have:(eE w S ep es)[i]?≠none:=by rw[zA5 (by rw[vq]; symm)];simp
   exact absurd x this
 done:=λs Q E f j=>by
  obtain⟨it,g⟩:=f;refine hold λF r=>?_;obtain⟨d,e,z⟩:=id it.at_;refine r ?_;unfold zBU;refine yA (zDB (zB5 it.typeIs SF.slot_next (zBh SF.slot_next it.typeIs SF.entry_next ?_ (SF.args_next _))));refine yA (y4 ?_);refine yA (wpAny_fieldsOf e rfl ?_);unfold setEntries;refine yA (yA (zBe g C.data C.fits (y4 ?_)));rw[xI (by simp)];refine yA (HM g C.data C.fits C.rise C.plain C.led z (λv n a y=>?_) λx=>?_)
  ·rw[zCm (by rw[vq]; simp)] at n;cases n
  ·refine yA (zCS e rfl (by simp) ?_);refine yA ?_;refine yA (m:=firstArgMember _ _) (wpAny_of_eq (by rfl) ?_);refine zCy ?_ (by size_fits);refine yA (wpAny_handled ?_);rw[show A.in1.handled=none from G];refine yA (y4 (wpAny_throw ?_));refine yA (zCC (b:=true) ⟨_,u3 _ rfl,rfl⟩ isSubtype_stop ?_);refine y4 (j _ s.toks λb D l p=>?_);have:I≠b:=λz=>l (by ext);exact y1 _ (y1 _ ((zA6 _ _ this).trans p))
 self:=λi s Q E f j=>by have q:=f.1.typeIs (s:=s);refine wpAny_pyIter_slot q SF.zu (zBh SF.zu q SF.GL ?_ (SF.Ju _));exact y4 ⟨_,rfl,"set_iterator",_,q,SF.slot_next.lookup,j⟩
end
section
variable {prog:zAA}{w:zAE}{K:Type}[DecidableEq K]{knd:KeyKind prog w K}{A:zAI}{E:zzE}{s:VV}
variable {S:M1}{o:Obj}{es:Array (Int × Value)}{ep:Nat}{t:SetTable}
theorem MY {Q:zzE}(a:s.heap.get? S=some o)(C:Calm w o es ep t)(h:∀h',h'=s.heap.push { cls:=.type "set_iterator",dict:=none,data:=.fields #[zBX (0:Nat),zBX (0:Nat),.ref S,zBX es.size,zBX ep],slots:=#[] }->Q (.ref s.heap.objs.size) { s with heap:=h' }):zAC (zAD prog w) A (zDe (.ref S)) Q E s:=by have b:s.TypeIs (.ref S) _:=⟨o,a,C.ex.1⟩;refine wpAny_pyIter_slot b F.slot_set_iter (zBh F.slot_set_iter b SF.Jt ?_ (F.args_set_iter_1 _));refine yA (yA (y4 (y4 ?_)));refine yA (yA (yA (zBe a C.data C.fits (y4 (y4 ?_)))));refine yA ?_;refine yA (zBe a C.data C.fits ?_);refine yA (DR ?_);refine y4 ?_;show zAC _ _ (if (!w.params.followText _&&(!t.plain&&decide _))=true then _ else _) _ _ _;rw[C.plain,xI (by simp)];refine yA (y4 ?_);refine yA (yA (zBe a C.data C.fits (y4 ?_)));refine yA (zCy ?_ (by size_fits));refine y4 ⟨_,rfl,"set_iterator",_,⟨_,u3 _ rfl,rfl⟩,SF.slot_next.lookup,h _ rfl⟩
theorem MZ {Q:Bool->VV->Prop}(b:s.heap.get? S=some o)(C:Calm w o es ep t)(h:Q false s):zAC (zAD prog w) A (Builtin.List.listLengthHint (.ref S)) Q E s:=by have a:s.TypeIs (.ref S) _:=⟨o,b,C.ex.1⟩;refine yA (zCJ a F.slot_set_len.lookup ?_);refine yA (zCC a sub_set_self ?_);refine yA (zCp a ?_);exact y4 h
set_option maxHeartbeats 4000000 in theorem GN {Q:List Value->VV->Prop}(hh:A.handled=none)(ho:s.heap.get? S=some o)(C:Calm w o es ep t)(hz:es.size<=PK)(h:∀h' tk vs,(∀b o,s.heap.get? b=some o->h'.get? b=some o)->s.heap.objs.size<=h'.objs.size->vs=(eE w S ep es).toList.map (·.2)->Q vs { s with heap:=h',toks:=tk }):zAC (zAD prog w) A (collect (.ref S)) Q E s:=by
 have l:S < s.heap.objs.size:=vT ho;unfold collect;refine yA (wpAny_runValue (zBq F.entry_proto_collect ?_));rw[zBj F.plain_proto_collect _];refine yA (zCy ?_);refine y4 ⟨zCw F.plain_list_iadd _,zBq F.entry_list_iadd ?_⟩;rw[zBj F.plain_list_iadd _];show zAC _ A.in1 (Builtin.List.listExtendWith (.ref s.heap.objs.size) (.ref S) (.ref s.heap.objs.size)) _ _ _;generalize G:({ cls:=.type "list",data:=.seq ([]:List Value).toArray }:Obj)=f;have hL:(s.heap.push f).get? s.heap.objs.size=some f:=u3 _ (by rw[<-G]; rfl);have u:(s.heap.push f).get? S=some o:=y1 _ ho;unfold Builtin.List.listExtendWith;refine yA (zCp (T:="set") ⟨o,u,C.ex.1⟩ ?_);have h1:Builtin.List.listSameRef (.ref s.heap.objs.size) (.ref S)=false:=by simp only [Builtin.List.listSameRef];grind
 have h2:(type "set" == type "list")=false:=by decide
 have h3:(type "set" == type "tuple")=false:=by symm
 simp only [h1,h2,h3,Bool.or_false,zBa,zC2];refine yA (MY u C λh' e=>?_);subst e;have sz:(s.heap.push f).objs.size=s.heap.objs.size+1:=size_push ..;generalize B:({ cls:=.type "set_iterator",dict:=none,data:=.fields _,slots:=#[] }:Obj)=r;have J:((s.heap.push f).push r).get? S=some o:=y1 _ u;have M:((s.heap.push f).push r).get? s.heap.objs.size=some f:=y1 _ hL;have Y:((s.heap.push f).push r).get? (s.heap.push f).objs.size=some r:=u3 _ (by rw[<-B]; symm);refine yA (zBg (MZ J C ?_));rw[v6 (by rfl)];refine yA (zBO ?_);refine yA ?_;subst G;refine yA (wpAny_updateSeq M rfl ?_);have p:=zBs (mapSeq (·.push Value.none)) M rfl;refine wpAny_updateSeq p rfl ?_;have L:=zBs (mapSeq (·.pop)) p rfl;have y:(s.heap.push { cls:=.type "list",data:=.seq ([]:List Value).toArray }).objs.size≠s.heap.objs.size:=by simp
 have g:∀(h:Heap) b o,b≠s.heap.objs.size->h.get? b=some o->((h.update s.heap.objs.size (mapSeq (·.push Value.none))).update s.heap.objs.size (mapSeq (·.pop))).get? b=some o:=λh b o z e=>(zA6 _ _ (Ne.symm z)).trans ((zA6 _ _ (Ne.symm z)).trans e);have n:S≠(s.heap.push { cls:=.type "list",data:=.seq ([]:List Value).toArray }).objs.size:=by grind
 have W:=walks (prog:=prog) (A:=A.in1) ‹_› _ S n C;have X:=g _ _ _ y Y;have V:=g _ _ _ (wE l) J;have v:∀b k,s.heap.get? b=some k->((((s.heap.push { cls:=.type "list",data:=.seq ([]:List Value).toArray }).push r).update s.heap.objs.size (mapSeq (·.push Value.none))).update s.heap.objs.size (mapSeq (·.pop))).get? b=some k:=λb k e=>g _ _ _ (wE (vT e)) (y1 _ (y1 _ e));have x:∃c,((((s.heap.push _).push r).update s.heap.objs.size (mapSeq (·.push Value.none))).update s.heap.objs.size (mapSeq (·.pop))).get? s.heap.objs.size=some { cls:=.type "list",dict:=none,data:=.seq #[] c,slots:=#[] }:=⟨_,L⟩;clear L p g;generalize ((((s.heap.push _).push r).update s.heap.objs.size (mapSeq (·.push Value.none))).update s.heap.objs.size (mapSeq (·.pop)))=h4 at *;generalize (s.heap.push _).objs.size=I at *;obtain⟨c5,x⟩:=x;subst B;have Z:SetTable.below t.place 0=0:=by
  obtain⟨b1,b2,b3⟩:=oU C.rise 0;rcases Nat.eq_zero_or_pos (SetTable.below t.place 0) with q | q;·exact q
  ·have:=b2 0 q;ext
 have R:(λi (s:VV)=>zq w s.heap I S t es.size ep i/\s.heap.get? S=some o) 0 { s with heap:=h4 }:=⟨⟨0,X,λ_=>Z⟩,V⟩;refine y4 ⟨zCw F.plain_extend_loop _,codeAny_extend_loopS W.toS hz s.heap.objs.size ?_ _ es.size 0 { s with heap:=h4 } #[] c5 rfl (zAb _) R x (ItemsOf.nil _) λs' m c' N H a=>?_⟩
 ·simp;exact⟨y.symm,zCq l⟩
 ·refine yA (wpAny_load H ?_);obtain⟨h',g',d',P,O⟩:=s';have eg:g'=s.gens:=N.gens;have ed:d'=s.drawn:=N.drawn;have eo:O=s.os:=N.os;subst eg; subst ed; subst eo;have D:∀b k,s.heap.get? b=some k->h'.get? b=some k:=λb k e=>by have z:=vT e;refine N.heap b k ?_ (v b k e);simp;exact⟨wE z,by rw[sz]; exact wE (Nat.lt_succ_of_lt z)⟩
  refine y4 (h h' P _ D (zBk (vT H)) (List.ext_getElem? λj=>?_));rw[zBt,v3,zBt];have U:=vq w S ep es;rcases lt_or_ge j es.size with q | q
  ·have hj:j < m.size:=by rw[a.1]; exact q
   have:=a.2 j m[j] (zA5 hj);rw[zA5 hj];exact this.symm
  ·rw[zCm (by rw[a.1]; exact q),zCm (by rw[U]; exact q)];rfl
end
open PySem.W PyProof.Rows
noncomputable def run (r:Nat->Nat):KasT α->α| .ret a=>a| .ask i j k=>run r (k (decide (r i < r j)))
theorem run_bind (r:Nat->Nat)(f:α->KasT β):∀t:KasT α,run r (t.bind f)=run r (f (run r t))| .ret _=>rfl| .ask i j k=>run_bind r f (k _)
noncomputable def GA (n:Nat)(R:α->Prop):KasT α->Prop| .ret a=>R a| .ask i j k=>i < n/\j < n/\∀b,GA n R (k b)
theorem GA.bind {f:α->KasT β}(d:∀a,R a->GA n c (f a)):∀t:KasT α,GA n R t->GA n c (t.bind f)| .ret a,h=>d a h| .ask i j k,h=>⟨h.1,h.2.1,λb=>GA.bind d _ (h.2.2 b)⟩
theorem HP {n:Nat}{α:Type}{r:Nat->Nat}{b:Nat->Nat->(Bool->VV->Prop)->VV->Prop}{s:VV}(c:∀i j (C:Bool->VV->Prop),i < n->j < n->C (decide (r i < r j)) s->b i j C s){R:α->Prop}{Q:α->VV->Prop} : ∀t:KasT α,GA n R t->Q (run r t) s->t.kasWp b Q s| .ret a,_,h=>h| .ask i j k,g,h=>c i j _ g.1 g.2.1 (HP c _ (g.2.2 _) h)
noncomputable def Lo (n:Nat)(p:Array Nat):Prop:=∀k,p.getD k 0 < n
theorem yy (u v:Nat->Nat):∀(l:List Nat) (p:Array Nat),Lo n p->Lo n (l.foldl (λa k=>a.swapIfInBounds (u k) (v k)) p)
 | [],p,h=>h| k::l,p,h=>by
  refine yy u v l _ λx=>?_;show (p.swapIfInBounds _ _).getD x 0 < n;rw[zAn];by_cases b:u k < p.size
  ·by_cases c:v k < p.size
   ·rw[getElem?_swapIB b c];split;·rw[<-zAn]; exact h _
    ·split;·rw[<-zAn]; exact h _
     ·rw[<-zAn]; exact h _
   ·rw[Array.swapIfInBounds_def,dif_pos b,dif_neg c,<-zAn]; exact h _
  ·rw[Array.swapIfInBounds_def,dif_neg b,<-zAn]; exact h _
theorem Lo.rev (h:Lo n p)(i j:Nat):Lo n (zDc p i j):=yy _ _ _ _ h
theorem Lo.SH (h:Lo n p)(i j:Nat):Lo n (bubble p i j):=yy _ _ _ _ h
theorem DS (h:Lo n p):∀f m,GA n (λ_=>True) (zDJ p f m)| 0,m=>trivial| f+1,m=>⟨h _,h _,λb=>by cases b with| true=>exact trivial| false=>exact DS h f _⟩
theorem xu:∀f (p:Array Nat) m q,Lo n p->GA n (λx:Array Nat × Nat × Nat=>Lo n x.1) (kas_desc f p m q)| 0,p,m,q,h=>h| f+1,p,m,q,h=>⟨h _,h _,λb=>by cases b with
  | true=>
   split;·exact xu f _ _ _ (h.rev _ _)
   ·exact xu f _ _ _ h| false=>exact⟨h _,h _,λd=>by cases d with| true=>symm| false=>exact xu f _ _ _ h⟩⟩
theorem DT (h:Lo n p):GA n (λx:Nat × Array Nat=>Lo n x.2) (kas_tail3 m k p):=by refine GA.bind (λa _=>?_) _ (DS (h.rev _ _) _ _);exact h.rev _ _
theorem xY (h:Lo n p):GA n (λx:Nat × Array Nat=>Lo n x.2) (kas_descPart m k p):=GA.bind (λa b=>by
  split;·exact DT (b.rev _ _)
  ·exact DT b) _ (xu _ _ _ _ h)
theorem M7 (h:Lo n p):GA n (λx:Nat × Array Nat=>Lo n x.2) (kas_count k p):=GA.bind (λa _=>by
  split;·symm
  ·split;·exact⟨h _,h _,λb=>by cases b with| true=>symm| false=>exact xY (h.rev _ _)⟩
   ·exact xY h) _ (DS h _ _)
theorem yz (h:Lo n p):∀f a b,GA n (λ_=>True) (zDF p k f a b)
 | 0,a,b=>trivial| f+1,a,b=>by
  unfold zDF;split;·exact trivial
  ·exact⟨h _,h _,λc=>by cases c with| true=>exact yz h f _ _| false=>exact yz h f _ _⟩
theorem KD:∀f (p:Array Nat) k,Lo n p->GA n (λ_=>True) (kas_bin f p k)| 0,p,k,h=>trivial| f+1,p,k,h=>GA.bind (λl _=>KD f _ _ (h.SH _ _)) _ (yz h _ _ _)
theorem QT (d:0 < n):GA n (λ_=>True) (kas_sort n):=GA.bind (λa b=>by
  split;·exact KD _ _ _ b
  ·exact trivial) _ (M7 λk=>by
   rw[zAn];by_cases c:k < n;·simp [c]
   ·simp [c,d])
section
variable {r:Nat->Nat}{n:Nat}
structure Ok (r:Nat->Nat)(n:Nat)(p:Array Nat):Prop where
 size:p.size=n
 inj:∀a b,a < n->b < n->r (p.getD a 0)=r (p.getD b 0)->a=b
theorem HQ {p q:Array Nat}(h:p[k]?=q[l]?):p.getD k 0=q.getD l 0:=by ext
theorem Ok.rev (h:Ok r n p)(c:m<=n):Ok r n (zDc p 0 m)/\∀k,(zDc p 0 m).getD k 0=p.getD (if k < m then m - 1 - k else k) 0:=by
 have g:∀k,(zDc p 0 m).getD k 0=p.getD (if k < m then m - 1 - k else k) 0:=λk=>by refine HQ ?_;unfold zDc;rw[getElem?_mirror_all (by rw[h.size]; symm)];grind
 refine⟨⟨by unfold zDc; rw[mirror_size,h.size],λa b d f e=>?_⟩,g⟩;rw[g,g] at e;have:=h.inj _ _ (by split <;> lia) (by split <;> lia) e;split at this <;> split at this <;> lia
theorem Ok.SH (h:Ok r n p)(t:k < n)(F:l<=k):Ok r n (bubble p k (k - l))/\∀j,(bubble p k (k - l)).getD j 0=p.getD (if j=l then k else if l < j/\j<=k then j - 1 else j) 0:=by
 have g:∀j,(bubble p k (k - l)).getD j 0=p.getD (if j=l then k else if l < j/\j<=k then j - 1 else j) 0:=λj=>by
  refine HQ ?_;rw[getElem?_bubble (by rw[h.size]; exact t) _ (by simp)];rw[show k - (k - l)=l by lia];split;·rfl
  ·split <;> rfl
 refine⟨⟨by rw[bubble_size,h.size],λa b A B e=>?_⟩,g⟩;rw[g,g] at e;have v:∀j,j < n->(if j=l then k else if l < j/\j<=k then j - 1 else j) < n:=λj x=>by
  by_cases d:j=l;·rw[v6 d]; exact t
  ·rw[xI d];by_cases c:l < j/\j<=k;·rw[v6 c]; lia
   ·rw[xI c]; exact x
 have:=h.inj _ _ (v a A) (v b B) e;have u:∀j,∃q,q=(if j=l then k else if l < j/\j<=k then j - 1 else j)/\((j=l/\q=k)\/(l < j/\j<=k/\q+1=j)\/(j < l/\q=j)\/(k < j/\q=j)):=λj=>by
  refine⟨_,rfl,?_⟩;by_cases d:j=l;·rw[v6 d]; exact .inl ⟨d,rfl⟩
  ·rw[xI d];by_cases c:l < j/\j<=k;·rw[v6 c]; exact .inr (.inl ⟨c.1,c.2,Nat.sub_add_cancel (zCc (zAb _) c.1)⟩)
   ·rw[xI c];by_cases s:l < j;·exact .inr (.inr (.inr ⟨Nat.lt_of_not_le λz=>c ⟨s,z⟩,rfl⟩))
    ·exact .inr (.inr (.inl ⟨Nat.lt_of_le_of_ne (Nat.le_of_not_lt s) d,rfl⟩))
 obtain⟨G,w,i⟩:=u a;obtain⟨C,y,f⟩:=u b;rw[<-w,<-y] at this;rcases i with ⟨i,o⟩ | ⟨i,o,E⟩ | ⟨i,o⟩ | ⟨i,o⟩ <;> rcases f with ⟨f,m⟩ | ⟨f,m,D⟩ | ⟨f,m⟩ | ⟨f,m⟩ <;> lia
noncomputable def Up (r:Nat->Nat)(p:Array Nat)(m:Nat):Prop:=∀t,1<=t->t < m->r (p.getD (t - 1) 0) < r (p.getD t 0)
theorem Up.lt (h:Up r p m):∀d i,i+d+1 < m->r (p.getD i 0) < r (p.getD (i+d+1) 0)| 0,i,a=>by have:=h (i+1) (by simp) ‹_›;rwa [show i+1 - 1=i by simp] at this| d+1,i,a=>by have c:=Up.lt h d i (zBk a);have b:=h (i+(d+1)+1) (by simp) a;rw[show i+(d+1)+1 - 1=i+d+1 by rfl] at b;exact Nat.lt_trans c b
theorem Up.lt' (h:Up r p m)(a:i < j)(b:j < m):r (p.getD i 0) < r (p.getD j 0):=by have:=h.lt (j - i - 1) i (by lia);rwa [show i+(j - i - 1)+1=j by lia] at this
theorem AV (h:Ok r n p):∀f m,1<=m->m+f=n->Up r p m->m<=run r (zDJ p f m)/\run r (zDJ p f m)<=n/\Up r p (run r (zDJ p f m))/\(run r (zDJ p f m) < n->r (p.getD (run r (zDJ p f m)) 0) < r (p.getD (run r (zDJ p f m) - 1) 0))
 | 0,m,g,e,u=>⟨y6 _,by show m<=n; ext,u,λ(z:m < n)=>by ext⟩| f+1,m,g,e,u=>by
  unfold zDJ run;by_cases c:r (p.getD m 0) < r (p.getD (m - 1) 0);·rw[j2 c]; exact⟨y6 _,by show m<=n; lia,u,λ_=>c⟩
  ·have d:r (p.getD (m - 1) 0) < r (p.getD m 0):=by
    rcases lt_or_ge _ _ with q | q;·symm
    ·have:=h.inj (m - 1) m (by lia) (by lia) (by lia);lia
   obtain⟨l,k,o,j⟩:=AV h f (m+1) (by simp) (by lia) λt a b=>by
    by_cases i:t=m;·ext
    ·exact u t a (by lia)
   grind
noncomputable def Down (r:Nat->Nat)(p:Array Nat)(m:Nat):Prop:=∀t,1<=t->t < m->r (p.getD t 0) < r (p.getD (t - 1) 0)
theorem DU (h:Ok r n p):∀f m,2<=m->m+f=n->Down r p m->∃a,run r (kas_desc f p m 0)=(p,a,0)/\m<=a/\a<=n/\Down r p a
 | 0,m,i,e,d=>⟨m,rfl,y6 _,by ext,d⟩| f+1,m,i,e,d=>by
  unfold kas_desc run;by_cases c:r (p.getD m 0) < r (p.getD (m - 1) 0)
  ·obtain⟨a,k,s,u,o⟩:=DU h f (m+1) (by lia) (by lia) λt b j=>by
    by_cases l:t=m;·ext
    ·exact d t b (by lia)
   grind
  ·rw[zAx c]; have g:r (p.getD (m - 1) 0) < r (p.getD m 0):=by
    rcases lt_or_ge _ _ with q | q;·symm
    ·have:=h.inj (m - 1) m (by lia) (by lia) (by lia);lia
   show ∃a,run r (if decide _=true then KasT.ret _ else kas_desc f p _ _)=(p,a,0)/\_;rw[j2 g];exact⟨m,rfl,y6 _,by lia,d⟩
theorem KG (h:Ok r n p)(j:1<=m)(f:m<=n)(d:Down r p m):∃a b,run r (kas_tail3 m n p)=(a,b)/\1<=a/\a<=n/\Ok r n b/\Up r b a/\b.Perm p:=by
 obtain⟨e,g⟩:=h.rev f;have u:Up r _ m:=λt k c=>by rw[g,g,v6 (by lia),v6 c];have:=d (m - 1 - (t - 1)) (by lia) (by grind);rwa [show m - 1 - (t - 1) - 1=m - 1 - t by lia] at this
 obtain⟨o,i,l,_⟩:=AV e (n - m) m j (by ext) u;unfold kas_tail3;rw[run_bind];exact⟨_,_,rfl,by lia,i,e,l,mirror_perm _ _ _ _⟩
theorem KH (h:Ok r n p)(v:1<=n):∃a b,run r (kas_count n p)=(a,b)/\1<=a/\a<=n/\Ok r n b/\Up r b a/\b.Perm p:=by
 unfold kas_count;rw[run_bind];obtain⟨f,i,d,j⟩:=AV h (n - 1) 1 (y6 _) (by ext) λt o q=>by ext
 generalize run r _=m at *;by_cases c:m=n
 ·rw[v6 (by ext)];exact⟨m,p,rfl,f,i,h,d,Array.Perm.refl _⟩
 ·rw[xI (by simpa using c)];by_cases g:m > 1
  ·rw[v6 g];unfold run;rw[j2 (d.lt' (show 0 < m - 1 by lia) (by lia))]; exact⟨m,p,rfl,f,i,h,d,Array.Perm.refl _⟩
  ·rw[xI g];have e:m=1:=by lia
   subst e;unfold kas_descPart;rw[run_bind];obtain⟨a,l,s,u,k⟩:=DU h (n - (1+1)) 2 (by simp) (by lia) λt o q=>by
    have:t=1:=by lia
    rw[this];exact j (by lia)
   rw[l];exact KG (m:=a) h (zBk s) u k
theorem vt (h:Ok r n p)(d:k < n)(u:Up r p k):∀f a b,a<=b->b<=k->b - a<=f->(∀t,t < a->r (p.getD t 0) < r (p.getD k 0))->(∀t,b<=t->t < k->r (p.getD k 0) < r (p.getD t 0))-> run r (zDF p k f a b)<=k/\(∀t,t < run r (zDF p k f a b)->r (p.getD t 0) < r (p.getD k 0))/\(∀t,run r (zDF p k f a b)<=t->t < k->r (p.getD k 0) < r (p.getD t 0))
 | 0,a,b,v,s,w,l,g=>⟨by show a<=k; lia,l,λt (m:a<=t) d=>g t (by lia) d⟩| f+1,a,b,v,s,w,l,g=>by
  unfold zDF;by_cases c:a >= b
  ·rw[v6 c];exact⟨by show a<=k; grind,l,λt (m:a<=t) d=>g t (by lia) d⟩
  ·rw[xI c];unfold run;by_cases j:r (p.getD k 0) < r (p.getD ((a+b) / 2) 0)
   ·rw[j2 j]; refine vt h d u f a _ (by lia) (by lia) (by lia) l λt m o=>?_;by_cases e:t=(a+b) / 2;·ext
    ·exact Nat.lt_trans j (u.lt' (by lia) o)
   ·rw[zAx j]; have i:r (p.getD ((a+b) / 2) 0) < r (p.getD k 0):=by
     rcases lt_or_ge _ _ with q | q;·exact q
     ·have:=h.inj ((a+b) / 2) k (by lia) d (by lia);lia
    refine vt h d u f _ b (by lia) s (by grind) (λt m=>?_) g;by_cases e:t=(a+b) / 2;·rw[e]; exact i
    ·exact Nat.lt_trans (u.lt' (show t < (a+b) / 2 by lia) (by lia)) i
theorem HR:∀(f:Nat) (p:Array Nat) (k:Nat),Ok r n p->1<=k->k+f=n->Up r p k->∃a,run r (kas_bin f p k)=a/\Ok r n a/\Up r a n/\a.Perm p
 | 0,p,k,h,_,e,u=>⟨p,rfl,h,by have:k=n:=‹_›; rw[<-this]; symm,Array.Perm.refl _⟩| f+1,p,k,h,z,e,u=>by
  unfold kas_bin;rw[run_bind];obtain⟨i,q,x⟩:=vt h (by lia) u k 0 k (zAb _) (y6 _) (by simp) (by simp) (by lia);generalize run r _=l at *;obtain⟨m,g⟩:=h.SH (by lia) i;obtain⟨a,j,o,w,y⟩:=HR f _ (k+1) m (by simp) (by lia) λt b v=>by
   rw[g,g];by_cases s:t < l
   ·rw[xI (by lia),xI (by lia),xI (wE s),xI (by lia)];exact u t b (by lia)
   ·by_cases c:t=l
    ·rw[xI (by lia),xI (by lia),v6 c];exact q _ (by lia)
    ·by_cases d:t - 1=l
     ·rw[v6 d,xI c,v6 (by lia)];exact x _ (by ext) (by lia)
     ·rw[xI d,v6 (by lia),xI c,v6 (by lia)];exact u _ (by lia) (by lia)
  exact⟨a,j,o,w,y.trans (bubble_perm _ _ _)⟩
theorem M9 (x:1<=n)(d:∀a b,a < n->b < n->r a=r b->a=b):∃p,run r (kas_sort n)=p/\p.size=n/\Up r p n/\p.Perm (range n).toArray:=by
 have s:Ok r n (range n).toArray:=⟨by simp,λa b f i e=>by
  have w:(range n).toArray.getD a 0=a:=by simp [getD,f]
  have o:(range n).toArray.getD b 0=b:=by simp [getD,i]
  rw[w,o] at e;exact d a b f i e⟩;unfold kas_sort;rw[run_bind];obtain⟨m,p,e,t,y,h,u,g⟩:=KH s x;rw[e];dsimp only;by_cases c:m < n
 ·rw[v6 c];obtain⟨k,v,l,q,j⟩:=HR (n - max m 1) p (max m 1) h (by ext) (by ext) (by rw[Nat.max_eq_left t]; exact u);exact⟨k,v,l.size,q,j.trans g⟩
 ·rw[xI c];have:m=n:=by lia
  subst this;exact⟨p,rfl,h.size,u,g⟩
end
end TB
namespace L2
open PySem PySem.Spec PyProof.Rows
abbrev Key:=Sum Int Str
noncomputable def qD:Key->Value->Bool| .inl k,v=>Value.isInt k v| .inr x,v=>Value.isStrOf x v
noncomputable def YK (w:zAE):Key->Int| .inl k=>hashInt k| .inr x=>hashStr w x
theorem eU:∀{k:Key} {v:Value},qD k v=true->(∃i t,k=Sum.inl i/\v=Value.int i t)\/(∃x t,k=Sum.inr x/\v=Value.str x t)| .inl i,v,h=>by obtain⟨t,e⟩:=Value.isInt_shape (k:=i) (v:=v) h;exact .inl ⟨i,t,rfl,e⟩| .inr x,v,h=>by obtain⟨t,e⟩:=Value.isStrOf_shape (x:=x) (v:=v) h;exact .inr ⟨x,t,rfl,e⟩
theorem KI (i:Int)(t:Tok):qD (.inl i) (.int i t)=true:=by simp [qD,Value.isInt]
theorem KJ (x:Str)(t:Tok):qD (.inr x) (.str x t)=true:=by simp [qD,Value.isStrOf]
theorem SJ (a b:Int):decide ((Sum.inl a:Key)=Sum.inl b)=(a == b):=by grind
theorem SK (a b:Str):decide ((Sum.inr a:Key)=Sum.inr b)=decide (a=b):=by simp
theorem SM (a:Int)(b:Str):decide ((Sum.inl a:Key)=Sum.inr b)=false:=zAx (by simp)
theorem SN (a:Str)(b:Int):decide ((Sum.inr a:Key)=Sum.inl b)=false:=zAx (by simp)
noncomputable def bR (prog:zAA)(w:zAE):PySem.KeyKind prog w Key where
 is:=qD;hash:=YK w;inj:=λv a b n l=>by
  rcases eU n with ⟨i,t,rfl,rfl⟩ | ⟨x,t,rfl,rfl⟩
  ·rcases eU l with ⟨j,u,rfl,e⟩ | ⟨y,u,rfl,e⟩;·injection e with d _; rw[d]
   ·exact nomatch e
  ·rcases eU l with ⟨j,u,rfl,e⟩ | ⟨y,u,rfl,e⟩;·exact nomatch e
   ·injection e with d _; rw[d]
 byValue:=λk v h=>by rcases eU h with ⟨i,t,rfl,rfl⟩ | ⟨x,t,rfl,rfl⟩ <;> rfl
 pyHash:=λf h=>by
  rcases eU f with ⟨i,t,rfl,rfl⟩ | ⟨x,t,rfl,rfl⟩;·exact wpAny_pyHash_int h
  ·exact wpAny_pyHash_str h
 eqBool:=λm f h=>by
  rcases eU m with ⟨i,t,rfl,rfl⟩ | ⟨x,t,rfl,rfl⟩
  ·rcases eU f with ⟨j,u,rfl,rfl⟩ | ⟨y,u,rfl,rfl⟩;·rw[SJ] at h; exact wpAny_eqBool_int h
   ·rw[SM] at h; exact SeqAt.EqAt.int_str i t y u _ _ _ _ h
  ·rcases eU f with ⟨j,u,rfl,rfl⟩ | ⟨y,u,rfl,rfl⟩;·rw[SN] at h; exact SeqAt.EqAt.str_int x t j u _ _ _ _ h
   ·rw[SK] at h; exact wpAny_eqBool_str h
 «strs»:=λk x t v h=>by
  rcases eU h with ⟨i,u,rfl,e⟩ | ⟨y,u,rfl,e⟩;·exact nomatch e
  ·injection e with d _;subst d;cases v <;> rfl
theorem xZ (prog:zAA)(w:zAE)(i:Int)(t:Tok):(bR prog w).is (.inl i) (.int i t)=true:=KI i t
theorem GO (prog:zAA)(w:zAE)(x:Str)(t:Tok):(bR prog w).is (.inr x) (.str x t)=true:=KJ x t
inductive V where| bq | bl (b:Bool) | int (i:Int) | str (x:Str) | nM (b:Array UInt8) | KL (b:UInt64) | ref (a:M1) | ty (n:String) deriving DecidableEq
noncomputable def RelV:V->Value->Prop| .bq,u=>u=Value.none| .bl b,u=>u=Value.bool b| .int i,u=>∃t,u=Value.int i t| .str x,u=>∃t,u=Value.str x t| .nM b,u=>∃t,u=Value.bytes b t| .KL b,u=>∃t,u=Value.float b t| .ref a,u=>u=Value.ref a| .ty n,u=>u=type n
abbrev Vals:List V->List Value->Prop:=Paired RelV
theorem Vals.length (r:Vals xs us):xs.length=us.length:=Paired.length r
theorem Vals.get:∀{xs:List V} {us:List Value} {i:Nat} {x:V},Vals xs us->xs[i]?=some x->∃u,us[i]?=some u/\RelV x u| _,_,_,_,.nil,e=>by ext| _,_,0,_,.cons r _,e=>by ext| _,_,i+1,x,.cons _ t,e=>by obtain⟨u,a,b⟩:=Vals.get t ‹_›;ext
theorem Vals.set (r:RelV x u):∀{xs:List V} {us:List Value} (i:Nat),Vals xs us->Vals (xs.set i x) (us.set i u)| _,_,_,.nil=>.nil| _,_,0,.cons _ t=>.cons r t| _,_,i+1,.cons q t=>.cons q (Vals.set r i t)
theorem Vals.append:∀{xs ys:List V} {us ws:List Value},Vals xs us->Vals ys ws->Vals (xs++ys) (us++ws)| _,_,_,_,.nil,s=>s| _,_,_,_,.cons r t,s=>.cons r (Vals.append t s)
theorem Vals.take:∀{xs:List V} {us:List Value} (n:Nat),Vals xs us->Vals (xs.take n) (us.take n)| _,_,0,_=>.nil| _,_,_+1,.nil=>.nil| _,_,n+1,.cons r t=>.cons r (Vals.take n t)
theorem Vals.drop:∀{xs:List V} {us:List Value} (n:Nat),Vals xs us->Vals (xs.drop n) (us.drop n)| _,_,0,r=>r| _,_,_+1,.nil=>.nil| _,_,n+1,.cons _ t=>Vals.drop n t
noncomputable def f9:Option V->Option Value->Prop| some v,some u=>RelV v u| none,none=>True| _,_=>False
noncomputable def KV:List (κ × V)->List (κ × Value)->Prop:=Paired λ(p:κ × V) (q:κ × Value)=>p.1=q.1/\RelV p.2 q.2
noncomputable def kV:Key->V| .inl i=>.int i| .inr x=>.str x
inductive HO where| lst (xs:List V)| tup (xs:List V)| dK (kvs:List (Key × V)) | dT (kvs:List (List Key × V))| set (S:Int->Bool) (n:Nat)| ins (C dx:M1) (fs:List (Str × V))| own (x:M1)| xd (fs:List (Str × V))| met (f x:M1)| O3 (lo hi:Int)| jo (o:Obj) (u:HO)| BS (ps:Array Value)| ext (φ:Heap->Prop)
abbrev Hp:=M1->Option HO
noncomputable def upd (H:Hp)(a:M1)(o:HO):Hp:=λb=>if b=a then some o else H b
theorem aq:upd H a o a=some o:=by unfold upd; simp
theorem aD (h:b≠a):upd H a o b=H b:=by unfold upd; ext
theorem aS {H:Hp}{a b:M1}{o:HO}(h:H a=some o)(h':H b=none):a≠b:=by grind
section
variable (P:zAA)(w:zAE)
noncomputable def bI (H:Hp)(h:Heap)(a:M1):HO->Prop| .lst e=>e.length<=PK/\∃(b:List Value) (n:Nat),Vals e b/\h.get? a=some { cls:=.type "list",data:=.seq b.toArray n }| .tup e=>e.length<=PK/\∃b:List Value,Vals e b/\zDX h a b.toArray| .dK d=>d.length<=PK/\(a == zAO)=false/\∃l,KV d l/\h.DictOf (bR P w) a l| .dT d=>d.length<=PK/\(a == zAO)=false/\∃e:List (List Key × M1 × Value), Paired (λ(p:List Key × V) (q:List Key × M1 × Value)=>p.1=q.1/\H q.2.1=some (.tup (p.1.map kV))/\RelV p.2 q.2.2) d e/\ ∃o k z,h.get? a=some o/\o.ExactDict/\o.data=.dict k z/\k.toList=e.map (zDY (zAT (bR P w)))/\(e.map (·.1)).Nodup| .set S n=>h.SetOf (zAQ P w) a S n| .ins C j i=>H j=some (.own a)/\i.length<=1000/\j≠a/\h.get? a=some (PySem.W.instObj C j)/\ ∃g,h.Ns1 j g/\(∀f,f9 (i.lookup f) (g f))/\PySem.Within g (i.map (·.1))| .own _=>∃o,h.get? a=some o| .xd i=>∃g,h.Ns1 a g/\∀f,f9 (i.lookup f) (g f)| .O3 lo s=>∃t u v,h.get? a=some { cls:=.type "range",data:=.fields #[.int lo t,.int s u,.int 1 v] }| .jo o u=>h.get? a=some o/\bI H h a u| .BS y=>h.get? a=some { cls:=.none,data:=.fields y }| .met f x=>h.get? a=some (PySem.W.methodObj (.ref f) (.ref x))| .ext φ=>φ h/\(∃o,h.get? a=some o)/\∀r m:Heap,φ r->(∀o,r.get? a=some o->m.get? a=some o)->φ m
noncomputable def fW (H:Hp)(h:Heap):Prop:=∀a o,H a=some o->bI P w H h a o
end
section
variable {P:zAA}{w:zAE}{H H':Hp}{h h':Heap}{a:M1}{o:HO}
theorem bI.lt (x:bI P w H h a o):a < h.objs.size:=by cases o with| lst d=>obtain⟨_,_,_,_,e⟩:=x; exact vT e| tup d=>obtain⟨_,_,_,p⟩:=x; exact p.lt| dK b=>obtain⟨_,_,_,_,o,_,_,e,_⟩:=x; exact vT e| dT b=>obtain⟨_,_,_,_,o,_,_,e,_⟩:=x; exact vT e| set S n=>obtain⟨o,_,_,_,e,_⟩:=x; exact vT e| ins C g c=>obtain⟨_,_,_,e,_⟩:=x; exact vT e| own y=>obtain⟨_,e⟩:=x; exact vT e| xd c=>obtain⟨_,⟨_,_,_,e,_⟩,_⟩:=x; exact vT e| O3 lo i=>obtain⟨_,_,_,e⟩:=x; exact vT e| jo k u=>obtain⟨e,_⟩:=x; exact vT e| BS j=>exact vT ‹_›| met f y=>exact vT ‹_›| ext φ=>obtain⟨_,⟨_,e⟩,_⟩:=x; exact vT e
theorem Paired.M_:∀{c:List α} {l₂:List β},Paired F c l₂->(∀a b,F a b->G a b)->Paired G c l₂| _,_,.nil,_=>.nil| _,_,.cons r t,f=>.cons (f _ _ r) (Paired.M_ t f)
theorem bI.stay (x:bI P w H h a o)(k:∀b u,(b=a\/H b=some (.own a))->h.get? b=some u->h'.get? b=some u)(B:∀b,H b=some (.own a)->H' b=some (.own a)) (M:∀b xs,H b=some (.tup xs)->H' b=some (.tup xs)):bI P w H' h' a o:=by induction o with| lst xs=>obtain⟨z,l,n,r,e⟩:=x; exact⟨z,l,n,r,(by ext)⟩| tup xs=>obtain⟨z,l,r,g,e,c⟩:=x; exact⟨z,l,r,g,(by ext),c⟩| dK s=>obtain⟨z,y,I,r,g,i,j,e,c⟩:=x; exact⟨z,y,I,r,g,i,j,(by ext),c⟩| dT s=> obtain⟨z,y,xs,r,g,i,j,e,c⟩:=x;exact⟨z,y,xs,Paired.M_ r (by ext),g,i,j,(by ext),c⟩| set S n=>obtain⟨g,i,j,t,e,c⟩:=x; exact⟨g,i,j,t,(by ext),c⟩| ins C K F=> obtain⟨d,z,E,e,m,⟨A,i,j,D,c⟩,r⟩:=x;exact⟨B _ d,z,E,(by ext),m,⟨A,i,j,k _ _ (.inr d) D,c⟩,r⟩| own y=>obtain⟨g,e⟩:=x; exact⟨g,(by ext)⟩| xd F=>obtain⟨m,⟨A,i,j,e,c⟩,r⟩:=x; exact⟨m,⟨A,i,j,k _ _ (.inl rfl) e,c⟩,r⟩| O3 lo L=>obtain⟨t,u,v,e⟩:=x; exact⟨t,u,v,(by ext)⟩| jo g u G=>obtain⟨e,q⟩:=x; exact⟨(by ext),G q⟩| BS J=> have e:h.get? a=some _:=x;show h'.get? a=some _;ext| met f y=> have e:h.get? a=some _:=x;show h'.get? a=some _;ext| ext φ=>obtain⟨p,⟨o,e⟩,st⟩:=x; exact⟨st _ _ p (by ext),(by ext),st⟩
theorem fW.lt (x:fW P w H h)(e:H a=some o):a < h.objs.size:=(x a o e).lt
theorem fW.fresh (x:fW P w H h)(e:h.objs.size<=a):H a=none:=by cases q:H a with| none=>rfl| some u=>exact absurd (wS (x.lt q) e) (zBl _)
theorem fW.kept (x:fW P w H h)(k:∀b u,h.get? b=some u->h'.get? b=some u):fW P w H h':=λa o e=>(x a o e).stay (λb u _ q=>k b u q) (λ_ q=>q) λ_ _ q=>q
theorem fW.laid (x:fW P w H h)(k:∀b u,h.get? b=some u->h'.get? b=some u)(g:h.objs.size<=a)(i:bI P w (upd H a o) h' a o):fW P w (upd H a o) h':=λb u e=>by
 have f:=x.fresh g;by_cases d:b=a;·subst d; rw[aq] at e; cases e; symm
 ·rw[aD d] at e;exact (x b u e).stay (by ext) (λc q=>by rw[aD (aS q f)]; symm) λc j q=>by rw[aD (aS q f)]; symm
end
noncomputable def Rd (H:Hp)(a:M1)(u:HO):Prop:=H a=some u\/∃o,H a=some (.jo o u)
theorem Rd.ok (r:Rd H a u)(x:fW P w H h):bI P w H h a u:=by
 rcases r with r | ⟨o,r⟩;·exact x a u r
 ·obtain⟨_,q⟩:=x a _ r;symm
noncomputable def eX:Option HO->Prop| some (.lst _)=>True| some (.dK _)=>True| some (.dT _)=>True| some (.set _ _)=>True| some (.ins _ _ _)=>True| some (.ext _)=>True| _=>False
section
variable {P:zAA}{w:zAE}{H:Hp}{h h':Heap}{x e:M1}{o':HO}
theorem fW.write (n:fW P w H h)(l:eX (H x))(p:e=x\/H e=some (.own x))(k:∀b u,b≠e->h.get? b=some u->h'.get? b=some u)(g:∃u,h'.get? e=some u)(m:bI P w (upd H x o') h' x o'):fW P w (upd H x o') h':=λb u q=>by
 have d:∀c y,H c=some (.own y)->c≠x:=λc y r z=>by subst z; rw[r] at l; symm
 have a:∀c f,H c=some (.tup f)->c≠x:=λc f r z=>by subst z; rw[r] at l; symm
 by_cases i:b=x;·subst i; rw[aq] at q; cases q; symm
 ·rw[aD i] at q;by_cases o:b=e
  ·have j:H b=some (.own x):=by ext
   rw[q] at j; cases j;obtain⟨v,t⟩:=g;exact⟨v,by ext⟩
  ·refine (n b u q).stay (λc v s r=>k c v ?_ r) (λc r=>by rw[aD (d c b r)]; symm) λc f r=>by rw[aD (a c f r)]; symm
   grind
end
structure Un (fs ex:List M1)(H H':Hp)(h h':Heap):Prop where
 keep:∀b o,h.get? b=some o->H b=none->b∉fs->b∉ex->h'.get? b=some o
 slot:∀b o,h.get? b=some o->H b=none->b∈fs->b∉ex->∃sl,h'.get? b=some { o with slots:=sl }
 free:∀b o,h.get? b=some o->H b=none->b∉ex->H' b=none
 there:∀b o,h.get? b=some o->b∉ex->∃o',h'.get? b=some o'
 tups:∀b xs,H b=some (.tup xs)->H' b=some (.tup xs)
 ng:∀b o u,H b=some (.jo o u)->H' b=some (.jo o u)
 oj:∀b ps,H b=some (.BS ps)->∃more,H' b=some (.BS (ps++more))
section
variable {fs fs' ex ex':List M1}{H H1 H2:Hp}{h h1 h2 h':Heap}{a x e:M1}{o:HO}
theorem Un.any (u:Un fs ex H H1 h h1)(q:h.get? b=some c)(n:H b=none)(f:b∉ex):∃g,h1.get? b=some { c with slots:=g }:=by
 by_cases d:b∈fs;·exact u.slot b c q n d f
 ·exact⟨c.slots,u.keep b c q n d f⟩
theorem Un.kept (k:∀b u,h.get? b=some u->h'.get? b=some u):Un fs ex H H h h':=⟨λb c q _ _ _=>k b c q,λb c q _ _ _=>⟨c.slots,k b c q⟩,λ_ _ _ n _=>n,λb c q _=>⟨c,k b c q⟩,λ_ _ q=>q,λ_ _ _ q=>q,λ_ d q=>⟨#[],by rw[q]; rfl⟩⟩
theorem Un.refl:Un fs ex H H h h:=Un.kept (by simp)
theorem Un.laid (k:∀b u,h.get? b=some u->h'.get? b=some u)(d:h.objs.size<=a)(c:H a=none):Un fs ex H (upd H a o) h h' where
 keep:=λb u q _ _ _=>k b u q;slot:=λb u q _ _ _=>⟨u.slots,k b u q⟩;free:=λb u q n _=>by rw[aD (wE (wS (vT q) d))]; symm
 there:=λb u q _=>⟨u,k b u q⟩;tups:=λb f q=>by rw[aD (aS q c)]; symm
 ng:=λb u f q=>by rw[aD (aS q c)]; symm
 oj:=λb g q=>⟨#[],by rw[aD (aS q c),q]; rfl⟩
theorem Un.write (j:eX (H x))(p:e=x\/H e=some (.own x))(k:∀b u,b≠e->h.get? b=some u->h'.get? b=some u)(f:∃u,h'.get? e=some u):Un fs ex H (upd H x o) h h':=by
 have g:∀b,H b=none->b≠x:=λb n z=>by subst z; rw[n] at j; symm
 have r:∀b,H b=none->b≠e:=λb n z=>by ext
 have d:∀b u,H b=some u->¬ eX (some u)->b≠x:=λb u q m z=>by ext
 refine⟨(by ext),λb u q n _ _=>⟨u.slots,(by ext)⟩,λb u q n _=>by rw[aD (g b n)]; symm,λb u q _=>?_, λb i q=>by rw[aD (d b _ q λz=>z)]; symm,λb u i q=>by rw[aD (d b _ q λz=>z)]; symm,λb l q=>⟨#[],by rw[aD (d b _ q λz=>z),q]; rfl⟩⟩;by_cases c:b=e;·subst c; exact f
 ·exact⟨u,k b u c q⟩
end
noncomputable def Xd (h:Heap)(H:Hp):List M1:=(range h.objs.size).filter λa=>(H a).isSome
noncomputable def vv (h:Heap)(H:Hp):Heap:=PySem.W.hideAll h (Xd h H)
theorem KN (h:Heap)(H:Hp):(vv h H).objs.size=h.objs.size:=PySem.W.hideAll_size _ _
theorem Na {h:Heap}{H:Hp}{b:M1}{o:Obj}(e:h.get? b=some o)(n:H b=none):(vv h H).get? b=some o:= PySem.W.hideAll_get _ e λc=>by have q:=(zAt.mp c).2;ext
theorem QU (e:(vv h H).get? b=some o):h.get? b=some o/\H b=none:=by have c:=PySem.W.of_hideAll _ e;refine⟨c,?_⟩;cases q:H b with| none=>rfl| some x=> have d:b∈Xd h H:=zAt.mpr ⟨zAk.mpr (vT c),by ext⟩;have z:(vv h H).get? b=none:=PySem.W.hideAll_none _ d;ext
structure Mod (K:zzA)(mg:Str->Option Value)(base:Heap):Prop where
 HS:K.In base
 glob:base.Ns zAB mg
 blt:∃mb,base.Ns zDK mb/\∀x:Str,x≠"__name__"->mb x=zCM x
 nolimit:base.NoLimit
structure Cx where
 prog:zAA
 w:zAE
 K:zzA
 mg:Str->Option Value
 base:Heap
 A:zAI
 N:List Str
 s₀:VV
 H₀:Hp
 env:Env
 outer:List Env
 stack:List Env
 ex:List M1
 fn:Str->Bool
 calm:Bool
 pn:zzC
 xe:zzE
def frs (l:List Env):List M1:=l.filterMap (·.frame)
abbrev Cx.fs (X:Cx):List M1:=frs X.outer
noncomputable def O4 (a:zCT)(x:Str):Prop:=a.names.lookup x=some .local\/a.names.lookup x=some .cell\/a.names.lookup x=some .free
noncomputable def Loc (a:zCT)(x:Str):Prop:=a.names.lookup x=some .local\/a.names.lookup x=some .cell
noncomputable def Look (env:Env)(h:Heap)(m:Str->Option Value)(x:Str)(u:Value):Prop:=(env.kindOf x=some .local/\m x=some u)\/((env.kindOf x=some .cell\/env.kindOf x=some .free)/\∃c,env.cells.lookup x=some c/\h.IsCell c (some u))
structure Cx.Ok (X:Cx):Prop where
 mod:Mod X.K X.mg X.base
 kind:X.env.scope.kind=.function
 glob:X.env.globals=zAB
 blt:X.env.builtins=zDK
 above:X.s₀.heap.objs.size<=X.env.locals
 inj:∀x y c,X.env.cells.lookup x=some c->X.env.cells.lookup y=some c->x=y
 has:∀x,(X.env.kindOf x=some .cell\/X.env.kindOf x=some .free)->∃c,X.env.cells.lookup x=some c
 KO:∀x c,X.fn x=true->X.env.cells.lookup x=some c->X.s₀.heap.objs.size<=c
 hd:X.calm=true->X.A.handled=none
 frames:X.A.frames=some X.stack
 stk:X.stack=X.outer\/(X.stack=X.env::X.outer/\X.env.frame=some X.env.locals)
 SO:∀b∈X.ex,b≠X.env.locals/\∀x c,X.env.cells.lookup x=some c->c≠b
 bs:∀b o,X.base.get? b=some o->X.s₀.heap.get? b=some o/\X.H₀ b=none
 zv:X.base.objs.size<=X.s₀.heap.objs.size
 DV:∀b o,X.base.get? b=some o->b∉X.ex
 DW:∀b∈X.ex,b∉X.fs
 om:X.s₀.heap.FunFrames X.base X.outer
 DX:∀b∈X.fs,X.H₀ b=none
structure Inv (X:Cx)(pins:zzC)(σ:List (Option V))(H:Hp)(s:VV):Prop where
 ok:X.Ok
 os:s.os=X.s₀.os
 bare:zCN s.gens
 base:Un X.fs X.ex X.H₀ H X.s₀.heap s.heap
 loc:∃m,s.heap.Ns X.env.locals m/\∀(i:Nat) (x:Str) (v:V),X.N[i]?=some x->σ[i]?=some (some v)->O4 X.env.scope x->∃u,RelV v u/\Look X.env s.heap m x u
 cell:∀x c,X.env.cells.lookup x=some c->∃v,s.heap.IsCell c v
 free:H X.env.locals=none
 kT:∀x c,X.env.cells.lookup x=some c->H c=none
 pin:∀p∈X.pn++pins,s.heap.get? p.1=some p.2/\H p.1=none/\p.1≠X.env.locals/\p.1∉X.fs/\∀v,p.2.data≠.cell v
 hok:fW X.prog X.w H s.heap
 len:σ.length=X.N.length
section
variable {X:Cx}{pins:zzC}{σ:List (Option V)}{H H':Hp}{s:VV}{h':Heap}
theorem Cx.Ok.YL (c:X.Ok)(e:X.base.get? b=some o):b∉X.fs:=λa=>by have:=(c.om.mem a).1;ext
theorem Inv.bs (I:Inv X pins σ H s):∀b o,X.base.get? b=some o->s.heap.get? b=some o/\H b=none:=λb o e=>⟨I.base.keep b o (I.ok.bs b o e).1 (I.ok.bs b o e).2 (I.ok.YL e) (I.ok.DV b o e),I.base.free b o (I.ok.bs b o e).1 (I.ok.bs b o e).2 (I.ok.DV b o e)⟩
theorem Inv.bk (I:Inv X pins σ H s):∀b o,X.base.get? b=some o->s.heap.get? b=some o:=λb o e=>(I.bs b o e).1
theorem Inv.mod (I:Inv X pins σ H s):Mod X.K X.mg X.base:=I.ok.mod
theorem Inv.pL (I:Inv X pins σ H s):X.K.In s.heap:=I.ok.mod.HS.keeps I.bk
theorem Inv.lt (I:Inv X pins σ H s):X.env.locals < s.heap.objs.size:=let ⟨_,a,_⟩:=I.loc; a.lt
theorem Inv.sz (I:Inv X pins σ H s):X.s₀.heap.objs.size<=s.heap.objs.size:=zAv I.ok.above (zBk I.lt)
theorem Inv.YM (I:Inv X pins σ H s)(h:s.heap.objs.size<=a):a∉X.fs:=λc=>by obtain⟨_,o,b,_⟩:=I.ok.om.mem c;exact absurd (wS (vT b) (zAv I.sz h)) (zBl _)
theorem Inv.SQ (I:Inv X pins σ H s):∀x c,X.env.cells.lookup x=some c->c≠X.env.locals:=λx c e z=>by obtain⟨v,o,d,g⟩:=I.cell x c e;obtain⟨m,⟨i,h,f,b,a,_⟩,_⟩:=I.loc;ext
theorem Inv.om (I:Inv X pins σ H s):s.heap.FunFrames X.base X.outer:=by
 have c:∀l,(∀b∈frs l,b∈X.fs)->X.s₀.heap.FunFrames X.base l->s.heap.FunFrames X.base l:=by intro l;induction l with| nil=>intro _ _; trivial| cons f r m=> intro d h;obtain⟨g,⟨L,o,i,q,j,t⟩,k⟩:=h;have a:=d L (by unfold frs; ext);obtain⟨p,e⟩:=I.base.slot L o j (I.ok.DX L a) a λz=>I.ok.DW L z a;exact⟨g,(by ext),m (λb n=>d b (by unfold frs; rw[List.filterMap_cons,i]; exact zB1 _ n)) k⟩
 exact c X.outer (by simp) I.ok.om
theorem Inv.stack (I:Inv X pins σ H s):s.heap.FunFrames X.base X.stack:=by
 rcases I.ok.stk with e | ⟨e,b⟩;·rw[e]; exact I.om
 ·rw[e];obtain⟨m,a,_⟩:=I.loc;refine .cons (by rw[I.ok.kind]; decide) b a ?_ I.om;exact Heap.get?_none_of_le (zAv I.ok.zv I.ok.above)
theorem Inv.DY (I:Inv X pins σ H s):∀b∈frs X.stack,b∈X.env.locals::X.fs:=λb a=>by
 rcases I.ok.stk with e | ⟨e,c⟩;·ext
 ·rw[e] at a;unfold frs at a;rw[List.filterMap_cons,c] at a;symm
theorem Inv.xw (I:Inv X pins σ H s):∀b∈frs X.stack,H b=none:=λb a=>by
 rcases u1.mp (I.DY b a) with e | a;·rw[e]; exact I.free
 ·obtain⟨_,o,c,_⟩:=I.ok.om.mem a;exact I.base.free b o c (I.ok.DX b a) λz=>I.ok.DW b z a
theorem Inv.step {ch:List M1}(I:Inv X pins σ H s)(h:∀b∈ch,(b∈X.ex\/X.s₀.heap.objs.size<=b)/\b≠X.env.locals/\(∀x c,X.env.cells.lookup x=some c->c≠b)/\∀p∈X.pn++pins,p.1≠b)(keep:∀b o,b≠X.env.locals->b∉X.fs->b∉ch->s.heap.get? b=some o->H b=none->h'.get? b=some o)(y:∀b o,b≠X.env.locals->b∈X.fs->b∉ch->s.heap.get? b=some o->H b=none->∃N,h'.get? b=some { o with slots:=N }) (f:∀b o,b∉ch->s.heap.get? b=some o->H b=none->H' b=none)(A:∀b o,b∉ch->s.heap.get? b=some o->∃E,h'.get? b=some E)(D:∀b xs,H b=some (.tup xs)->H' b=some (.tup xs)) (J:∀b o u,H b=some (.jo o u)->H' b=some (.jo o u)) (F:∀b ps,H b=some (.BS ps)->∃K,H' b=some (.BS (ps++K)))(ns:∀m,s.heap.Ns X.env.locals m->h'.Ns X.env.locals m) (M:fW X.prog X.w H' h') (Y:zCN g') : Inv X pins σ H' { s with heap:=h',gens:=g',drawn:=d',toks:=t' }:=by
 have G:∀b o,X.s₀.heap.get? b=some o->b≠X.env.locals:=λb o e=>wE (wS (vT e) I.ok.above);have t:∀b o,X.s₀.heap.get? b=some o->b∉X.ex->b∉ch:=λb o e a B=>by
  rcases (h b B).1 with z | z;·ext
  ·exact absurd (wS (vT e) z) (zBl _)
 have j:∀x c,X.env.cells.lookup x=some c->∀v,s.heap.IsCell c v->h'.IsCell c v:=λx c e v ⟨o,C,O⟩=>by
  have g:c∉ch:=λz=>(h c z).2.2.1 x c e rfl;by_cases R:c∈X.fs
  ·obtain⟨N,q⟩:=y c o (I.SQ x c e) R g C (I.kT x c e);exact⟨_,q,O⟩
  ·exact⟨o,keep c o (I.SQ x c e) R g C (I.kT x c e),O⟩
 refine⟨I.ok,I.os,Y,⟨λb o e n B a=>?_,λb o e n B a=>?_,λb o e n a=>?_,λb o e a=>?_,λb xs e=>D b xs (I.base.tups b xs e),λb o xs e=>J b o xs (I.base.ng b o xs e),λb ps e=>?_⟩,?_,λx c e=>?_,?_,λx c e=>?_,λp T=>?_,M,I.len⟩;·exact keep b o (G b o e) B (t b o e a) (I.base.keep b o e n B a) (I.base.free b o e n a)
 ·obtain⟨N,w⟩:=I.base.slot b o e n B a;obtain⟨P,L⟩:=y b _ (G b o e) B (t b o e a) w (I.base.free b o e n a);exact⟨P,L⟩
 ·obtain⟨E,w⟩:=I.base.there b o e a;exact f b E (t b o e a) w (I.base.free b o e n a)
 ·obtain⟨E,w⟩:=I.base.there b o e a;exact A b E (t b o e a) w
 ·obtain⟨U,w⟩:=I.base.oj b ps e;obtain⟨W,L⟩:=F b _ w;exact⟨U++W,by rw[L,Array.append_assoc]⟩
 ·obtain⟨m,Z,hl⟩:=I.loc;refine⟨m,ns m Z,λi x v w L e3=>?_⟩;obtain⟨u,r,l⟩:=hl i x v w L e3;refine⟨u,r,?_⟩;rcases l with l | ⟨k,c,e,z⟩;·exact .inl l
  ·exact .inr ⟨k,c,e,j x c e _ z⟩
 ·obtain⟨v,z⟩:=I.cell x c e;exact⟨v,j x c e v z⟩
 ·obtain⟨m,⟨o,_,_,C,_⟩,_⟩:=I.loc;exact f _ o (λz=>(h _ z).2.1 rfl) C I.free
 ·obtain⟨v,o,C,O⟩:=I.cell x c e;exact f c o (λz=>(h c z).2.2.1 x c e rfl) C (I.kT x c e)
 ·obtain⟨e,n,S,Q,d⟩:=I.pin p T;have g:p.1∉ch:=λz=>(h p.1 z).2.2.2 p T rfl;exact⟨keep p.1 p.2 S Q g e n,f p.1 p.2 g e n,S,Q,d⟩
theorem Inv.un (I:Inv X pins σ H s)(u:Un X.fs [] H H' s.heap h')(c:fW X.prog X.w H' h'):Inv X pins σ H' { s with heap:=h',toks:=t' }:=by obtain⟨m,⟨o,p,v,h,r⟩,_⟩:=id I.loc;obtain⟨l,j⟩:=u.any h I.free (by simp);exact I.step (ch:=[]) (by simp) (λb o _ g _ e n=>u.keep b o e n g ‹_›) (λb o _ g _ e n=>u.slot b o e n g ‹_›) (λb o _ e n=>u.free b o e n ‹_›) (λb o _ e=>u.there b o e ‹_›) u.tups u.ng u.oj (λt k=>by obtain⟨q,d,f,a,i⟩:=k;rw[h] at a; cases a;exact⟨_,d,f,j,i⟩) c I.bare
theorem Inv.call (I:Inv X pins σ H s)(u:Un (frs X.stack) ch H H' s.heap h')(h:fW X.prog X.w H' h')(v:zCN g')(d:∀b∈ch,(b∈X.ex\/X.s₀.heap.objs.size<=b)/\b≠X.env.locals/\(∀x c,X.env.cells.lookup x=some c->c≠b)/\∀p∈X.pn++pins,p.1≠b) : Inv X pins σ H' { s with heap:=h',gens:=g',drawn:=d',toks:=t' }:=by obtain⟨m,⟨o,w,y,k,r⟩,_⟩:=id I.loc;obtain⟨C,i⟩:=u.any k I.free λz=>(d _ z).2.1 rfl;exact I.step (ch:=ch) d (λb o i l a e n=>u.keep b o e n (λz=>(u1.mp (I.DY b z)).elim i l) a) (λb o _ _ a e n=>u.any e n a) (λb o a e n=>u.free b o e n a) (λb o a e=>u.there b o e a) u.tups u.ng u.oj (λB t=>by obtain⟨A,j,g,f,q⟩:=t;rw[k] at f; cases f;exact⟨_,j,g,i,q⟩) h v
theorem Inv.turned (I:Inv X pins σ H s)(k:∀b o,b≠a->s.heap.get? b=some o->h'.get? b=some o)(j:H a=none)(g:a≠X.env.locals)(y:a∈X.ex\/X.s₀.heap.objs.size<=a) (t:∀x c,X.env.cells.lookup x=some c->c≠a) (l:∀p∈X.pn++pins,p.1≠a):Inv X pins σ H { s with heap:=h',toks:=t' }:=by
 have f:∀b u,H b=some u->b≠a:=λb u e z=>by rw[z,j] at e; cases e
 refine I.step (g':=s.gens) (d':=s.drawn) (ch:=[a]) (λb B=>?_) (λb o _ _ d e _=>k b o (λz=>d (by simp [z])) e) (λb o _ _ d e _=>⟨o.slots,k b o (λz=>d (by simp [z])) e⟩) (λ_ _ _ _ n=>n) (λb o d e=>⟨o,k b o (λz=>d (by simp [z])) e⟩) (λ_ _ e=>e) (λ_ _ _ e=>e) (λb C e=>⟨#[],by rw[e]; rfl⟩) (λm h=>?_) (λb u e=>?_) I.bare
 ·have e:b=a:=by simpa using B
  subst e;exact⟨y,g,t,l⟩
 ·obtain⟨o,A,w,i,r⟩:=h;exact⟨o,A,w,k _ o (Ne.symm g) i,r⟩
 ·refine (I.hok b u e).stay (λc v d q=>k c v ?_ q) (λ_ q=>q) λ_ _ q=>q;rcases d with z | z;·rw[z]; exact f b u e
  ·exact f c _ z
theorem Inv.tok (I:Inv X pins σ H s)(t:Nat):Inv X pins σ H { s with toks:=t }:=I.un Un.refl I.hok
theorem Inv.kept (I:Inv X pins σ H s)(k:∀b u,s.heap.get? b=some u->h'.get? b=some u):Inv X pins σ H { s with heap:=h',toks:=t' }:=I.un (Un.kept k) (I.hok.kept k)
theorem Inv.laid (I:Inv X pins σ H s)(k:∀b u,s.heap.get? b=some u->h'.get? b=some u)(c:s.heap.objs.size<=a)(d:bI X.prog X.w (upd H a o) h' a o) : Inv X pins σ (upd H a o) { s with heap:=h',toks:=t' }:=I.un (Un.laid k c (I.hok.fresh c)) (I.hok.laid k c d)
theorem Inv.write (I:Inv X pins σ H s)(d:eX (H x))(f:e=x\/H e=some (.own x))(k:∀b u,b≠e->s.heap.get? b=some u->h'.get? b=some u)(a:∃u,h'.get? e=some u)(c:bI X.prog X.w (upd H x o) h' x o):Inv X pins σ (upd H x o) { s with heap:=h',toks:=t' }:=I.un (Un.write d f k a) (I.hok.write d f k a c)
theorem Inv.HU (I:Inv X pins σ H s)(h:∀p∈a,s.heap.get? p.1=some p.2/\H p.1=none/\p.1≠X.env.locals/\p.1∉X.fs/\∀v,p.2.data≠.cell v):Inv X a σ H s:=⟨I.ok,I.os,I.bare,I.base,I.loc,I.cell,I.free,I.kT,λp b=>(w8.mp b).elim (λz=>I.pin p (zB2 _ z)) (h p),I.hok,I.len⟩
theorem DZ {N:List Str}(c:N.Nodup){i j:Nat}(a:N[i]?=some x)(b:N[j]?=some x):i=j:=by obtain⟨g,e⟩:=q0.mp a;obtain⟨f,d⟩:=q0.mp b;exact (List.getElem_inj c).mp (e.trans d.symm)
theorem BU {M:Model}{A:zAI}{E:zzE}{i:Nat}{x:Str}{v:V}{u:Value}{Q:Unit->VV->Prop}(I:Inv X pins σ H s)(hN:X.N.Nodup)(W:X.N[i]?=some x)(t:Loc X.env.scope x)(r:RelV v u)(h:∀s',Inv X pins (σ.set i (some v)) H s'->(∃a,Heap.SameBut a s.heap s'.heap/\(a=X.env.locals\/X.env.cells.lookup x=some a))->Q () s') (hf:X.fn x=true\/X.env.scope.names.lookup x=some .local:=by first | exact .inl rfl | exact .inr rfl | symm):zAC M A (storeName X.env x u) Q E s:=by
 obtain⟨m,hn,hl⟩:=id I.loc;have R:(X.env.scope.kind == .class||(X.env.scope.kind == .module&&X.env.locals != X.env.globals))=false:=by rw[I.ok.kind]; rfl
 have O:i < σ.length:=by rw[I.len]; grind
 have J:=I.SQ;have l:∀{a:M1} {h':Heap},(∃o,s.heap.get? a=some o/\H a=none)->Heap.SameBut a s.heap h'->fW X.prog X.w H h':=λ{a h'} ha f b ob e=>by refine (I.hok b ob e).stay (λc S w q=>(f.2 c ?_).trans q) (by simp) (by simp);grind
 rcases t with C | C
 ·refine wpAny_storeName_local C hn (λh' hn' f=>?_) R;obtain⟨oL,_,_,ZJ,_⟩:=id hn;refine h _ ⟨I.ok,I.os,I.bare,⟨λb o e n D t=>?_,λb o e n D t=>?_,I.base.free,λb o e t=>?_,I.base.tups,I.base.ng,I.base.oj⟩,⟨_,hn',λj y v' g B e3=>?_⟩,λy c e=>?_,I.free,I.kT,λp Z=>?_,l ⟨oL,ZJ,I.free⟩ f,by simpa using I.len⟩ (by grind);·exact (f.2 b (wE (wS (vT e) I.ok.above))).trans (I.base.keep b o e n D t)
  ·obtain⟨sl,g⟩:=I.base.slot b o e n D t;exact⟨sl,(f.2 b (wE (wS (vT e) I.ok.above))).trans g⟩
  ·obtain⟨o',g⟩:=I.base.there b o e t;exact⟨o',(f.2 b (wE (wS (vT e) I.ok.above))).trans g⟩
  ·by_cases F:j=i
   ·subst F;rw[W] at g; cases g;rw[List.getElem?_set_self O] at B;cases B;exact⟨u,r,.inl ⟨C,by simp⟩⟩
   ·rw[List.getElem?_set_ne (Ne.symm F)] at B;obtain⟨Y,r',q⟩:=hl j y v' g B e3;refine⟨Y,r',?_⟩;rcases q with ⟨k,e⟩ | ⟨k,c,e,z⟩
    ·refine .inl ⟨k,?_⟩;have:y≠x:=λe=>F (DZ hN g (e ▸ W));simp [this,e]
    ·exact .inr ⟨k,c,e,z.sameBut f (J y c e)⟩
  ·obtain⟨S,z⟩:=I.cell y c e;exact⟨S,z.sameBut f (J y c e)⟩
  ·obtain⟨e,n,U,nf,d⟩:=I.pin p Z;exact⟨(f.2 p.1 U).trans e,n,U,nf,d⟩
 ·have G:X.fn x=true:=by
   rcases hf with z | z;·exact z
   ·rw[z] at C; cases C
  obtain⟨c,w⟩:=I.ok.has x (.inl C);obtain⟨S,z⟩:=I.cell x c w;refine wpAny_storeName_cell I.ok.kind C w z (λh' L f=>?_);obtain⟨oc,N,P⟩:=id z;refine h { s with heap:=h' } ⟨I.ok,I.os,I.bare,⟨λb o e n D t=>?_,λb o e n D t=>?_,I.base.free,λb o e t=>?_,I.base.tups,I.base.ng,I.base.oj⟩,⟨m,hn.sameBut f (Ne.symm (J x c w)),λj y v' g B e3=>?_⟩,λy T e=>?_,I.free,I.kT,λp Z=>?_,l ⟨oc,N,I.kT x c w⟩ f,by simpa using I.len⟩ ⟨c,f,.inr w⟩;·exact (f.2 b (wE (wS (vT e) (I.ok.KO x c G w)))).trans (I.base.keep b o e n D t)
  ·obtain⟨sl,g⟩:=I.base.slot b o e n D t;exact⟨sl,(f.2 b (wE (wS (vT e) (I.ok.KO x c G w)))).trans g⟩
  ·obtain⟨o',g⟩:=I.base.there b o e t;exact⟨o',(f.2 b (wE (wS (vT e) (I.ok.KO x c G w)))).trans g⟩
  ·by_cases F:j=i
   ·subst F;rw[W] at g; cases g;rw[List.getElem?_set_self O] at B;cases B;exact⟨u,r,.inr ⟨.inl C,c,w,L⟩⟩
   ·rw[List.getElem?_set_ne (Ne.symm F)] at B;obtain⟨Y,r',q⟩:=hl j y v' g B e3;refine⟨Y,r',?_⟩;rcases q with q | ⟨k,T,e,z'⟩;·exact .inl q
    ·refine .inr ⟨k,T,e,z'.sameBut f ?_⟩;rintro rfl;exact F (DZ hN g (I.ok.inj _ _ _ e w ▸ W))
  ·by_cases K:T=c;·subst K; exact⟨_,L⟩
   ·obtain⟨w2,z2⟩:=I.cell y T e;exact⟨w2,z2.sameBut f K⟩
  ·obtain⟨e,n,U,nf,d⟩:=I.pin p Z;refine⟨(f.2 p.1 ?_).trans e,n,U,nf,d⟩;intro q;rw[q,N] at e;have q':oc=p.2:=zAy e;exact d S (by rw[<-q']; exact P)
theorem D0 {M:Model}{A:zAI}{E:zzE}{i:Nat}{x:Str}{v:V}{u:Value}{Q:Unit->VV->Prop}(I:Inv X pins σ H s)(a:X.N.Nodup)(c:X.N[i]?=some x)(d:Loc X.env.scope x)(r:RelV v u)(h:∀s',Inv X pins (σ.set i (some v)) H s'->Q () s') (e:X.fn x=true\/X.env.scope.names.lookup x=some .local:=by first | exact .inl rfl | exact .inr rfl | symm):zAC M A (storeName X.env x u) Q E s:= BU I a c d r (λs' b _=>h s' b) e
theorem Inv.WE (I:Inv X pins σ H s)(g:s'.os=s.os)(u:Un (frs X.stack) ch H H' s.heap s'.heap)(d:fW X.prog X.w H' s'.heap)(f:zCN s'.gens)(a:∀b∈ch,(b∈X.ex\/X.s₀.heap.objs.size<=b)/\b≠X.env.locals/\(∀x c,X.env.cells.lookup x=some c->c≠b)/\∀p∈X.pn++pins,p.1≠b):Inv X pins σ H' s':=by obtain⟨h',i,h,j,k⟩:=s';have e:=g;subst e;exact I.call u d f a
end
abbrev XK:=Value->Option M1->Hp->Prop
abbrev St:=List (Option V)
abbrev VK:=V->Hp->Prop
abbrev TE:=St->Hp->VK->Prop
abbrev TT:=St->Hp->(Bool->Hp->Prop)->Prop
abbrev TA:=St->Hp->(List V->Hp->Prop)->Prop
structure Ends where
 nx:St->Hp->Prop
 rt:VK
 bk:St->Hp->Prop:=λ_ _=>False
 ct:St->Hp->Prop:=λ_ _=>False
abbrev TS:=Ends->St->Hp->Prop
noncomputable def EP (X:Cx)(a:zzC)(σ:St)(Q:VK)(u:Value)(s':VV):Prop:=∃v b,Inv X a σ b s'/\RelV v u/\Q v b
noncomputable def TP (X:Cx)(a:zzC)(σ:St)(Q:Bool->Hp->Prop)(b:Bool)(s':VV):Prop:=∃c,Inv X a σ c s'/\Q b c
noncomputable def AP (X:Cx)(a:zzC)(σ:St)(Q:List V->Hp->Prop)(us:List Value)(s':VV):Prop:=∃b c,Inv X a σ c s'/\Vals b us/\Q b c
noncomputable def SP (X:Cx)(a:zzC)(D:Ends)(f:Flow)(s':VV):Prop:= match f with| .next=>∃c b,Inv X a c b s'/\D.nx c b| .brk=>∃c b,Inv X a c b s'/\D.bk c b| .cont=>∃c b,Inv X a c b s'/\D.ct c b| .ret u=>∃v c b,Inv X a c b s'/\RelV v u/\D.rt v b
noncomputable def PE (X:Cx)(e:zAR)(t:TE):Prop:= ∀(a:zzC) (s:VV) (σ:St) (H:Hp) (Q:VK),Inv X a σ H s->t σ H Q->zAC (zAD X.prog X.w) X.A (zAM e X.env) (EP X a σ Q) X.xe s
noncomputable def PT (X:Cx)(e:zAR)(t:TT):Prop:= ∀(a:zzC) (s:VV) (σ:St) (H:Hp) (Q:Bool->Hp->Prop),Inv X a σ H s->t σ H Q->zAC (zAD X.prog X.w) X.A (zDf e X.env (zAM e X.env)) (TP X a σ Q) X.xe s
noncomputable def PW (X:Cx)(e:zAR)(t:TT):Prop:= ∀(b:Sem Value) (a:zzC) (s:VV) (σ:St) (H:Hp) (Q:Bool->Hp->Prop),Inv X a σ H s->t σ H Q->zAC (zAD X.prog X.w) X.A (zDf e X.env b) (TP X a σ Q) X.xe s
theorem PW.pt (h:PW X e t):PT X e t:=h _
noncomputable def PA (X:Cx)(es:List zAR)(t:TA):Prop:= ∀(b:Pos) (a:zzC) (s:VV) (σ:St) (H:Hp) (Q:List V->Hp->Prop),Inv X a σ H s->t σ H Q->zAC (zAD X.prog X.w) X.A (spliced (zAW b (zAG es X.env))) (AP X a σ Q) X.xe s
noncomputable def PS (X:Cx)(st:zAL)(t:TS):Prop:= ∀(a:zzC) (s:VV) (σ:St) (H:Hp) (D:Ends),Inv X a σ H s->t D σ H->zAC (zAD X.prog X.w) X.A (exec st X.env) (SP X a D) X.xe s
noncomputable def sE (X:Cx)(st:List zAL)(t:TS):Prop:= ∀(a:zzC) (s:VV) (σ:St) (H:Hp) (D:Ends),Inv X a σ H s->t D σ H->zAC (zAD X.prog X.w) X.A (execs st X.env) (SP X a D) X.xe s
theorem aQ (h:zAC M A t Q E s)(c:∀a s,Q a s->b a s):zAC M A t b E s:=zB3 h c λ_ _ x=>x
section
variable {X:Cx}
theorem bin (m:PE X a j)(o:PE X b i){R:V->V->Hp->Prop}(I:Inv X c σ H s)(h:j σ H λx g=>i σ g λy d=>R x y d){f:Value->Value->Sem α}(w:∀v u e x y d,Inv X c σ d e->RelV x v->RelV y u->R x y d->zAC (zAD X.prog X.w) X.A (f v u) Q X.xe e) : zAC (zAD X.prog X.w) X.A (zAM a X.env) (λv p=>zAC (zAD X.prog X.w) X.A (zAM b X.env) (λu k=>zAC (zAD X.prog X.w) X.A (f v u) Q X.xe k) X.xe p) X.xe s:=by exact aQ (m c s σ H _ I h) λv t ⟨x,g,r,q,A⟩=>(aQ (o c t σ g _ r A) λu e ⟨y,d,l,z,n⟩=>(w v u e x y d l q z n))
noncomputable def cF (i:Nat):TE:=fun σ H Q=>∃v,σ[i]?=some (some v)/\Q v H
noncomputable def tC (v:V):TE:=λ_ H Q=>Q v H
theorem SR (o:X.N[i]?=some x)(t:O4 X.env.scope x)(g:(x == ("__debug__":Str))=false:=by decide)(j:(x == ("__classdict__":Str))=false:=by decide):PE X (.Name x k) (cF i):=by
 intro f s σ H Q I h;obtain⟨v,e,h⟩:=h;obtain⟨m,q,p⟩:=I.loc;obtain⟨u,r,l⟩:=p i x v o e t;have d:EP X f σ Q u s:=⟨v,H,I,r,h⟩;rcases l with ⟨b,w⟩ | ⟨b,c,n,a⟩;·exact wpAny_Name (wpAny_loadName_local I.ok.kind b q w d) g
 ·rcases b with b | b;·exact wpAny_Name (wpAny_loadName_cell I.ok.kind b n a d) g
  ·exact wpAny_Name (wpAny_loadName_free I.ok.kind b n a d j) g
theorem ao:PE X (.Constant (.int i) j a) (tC (.int i)):=λ_ _ _ H _ I h=>wpAny_Constant_int ⟨.int i,H,I.tok _,⟨_,rfl⟩,h⟩
theorem kU:PE X (.Constant (.bool b) j a) (tC (.bl b)):=λ_ _ _ H _ I h=>Constant_bool ⟨.bl b,H,I,rfl,h⟩
theorem zw:PE X (.Constant .none j a) (tC .bq):=λ_ _ _ H _ I h=>Constant_none ⟨.bq,H,I,rfl,h⟩
theorem nN:PE X (.Constant (.str x) j b) (tC (.str x)):=λ_ _ _ H _ I h=>Calls.Constant_str ⟨.str x,H,I.tok _,⟨_,rfl⟩,h⟩
noncomputable def Gl (X:Cx)(x:Str):Prop:=X.env.kindOf x=some .globalImplicit
theorem sG {E:zzE}{b:zzC}{s:VV}{σ:St}{H:Hp}{x:Str}{u:Value}{c:Pos}{Q:zzE}(I:Inv X b σ H s)(e:Gl X x)(d:X.mg x=some u)(h:Q u s)(f:(x == ("__debug__":Str))=false:=by decide):zAC (zAD X.prog X.w) X.A (zAM (.Name x c) X.env) Q E s:= Calls.Name_function_global I.ok.kind e (Calls.loadGlobal_global (by rw[I.ok.glob]; exact I.mod.glob.keeps I.bk) d h) f
theorem nO {E:zzE}{b:zzC}{s:VV}{σ:St}{H:Hp}{x:Str}{u:Value}{c:Pos}{Q:zzE}(I:Inv X b σ H s)(g:Gl X x)(d:X.mg x=none)(k:zCM x=some u)(h:Q u s)(j:x≠"__name__":=by decide) (f:(x == ("__debug__":Str))=false:=by decide):zAC (zAD X.prog X.w) X.A (zAM (.Name x c) X.env) Q E s:=by obtain⟨i,e,l⟩:=I.mod.blt;exact Calls.Name_function_global I.ok.kind g (Calls.loadGlobal_builtin (by rw[I.ok.glob]; exact I.mod.glob.keeps I.bk) d (by rw[I.ok.blt]; exact e.keeps I.bk) (by ext) h) f
theorem eu (c:Gl X x)(b:X.mg x=some u)(r:RelV v u)(d:(x == ("__debug__":Str))=false:=by decide):PE X (.Name x a) (tC v):= λ_ _ _ H _ I h=>sG I c b ⟨v,H,I,r,h⟩ d
variable {a b:zAR}{ta tb:TE}{pos:Pos}
noncomputable def PC (X:Cx)(op:CmpOp)(a b:zAR)(t:TE):Prop:= ∀(c:zzC) (s:VV) (σ:St) (H:Hp) (Q:VK),Inv X c σ H s->t σ H Q-> zAC (zAD X.prog X.w) X.A (zAM a X.env) (λv e=>zAC (zAD X.prog X.w) X.A (zAM b X.env) (λu d=>zAC (zAD X.prog X.w) X.A (zAK op v u) (EP X c σ Q) X.xe d) X.xe e) X.xe s
theorem Nb (b:zAR)(h:op≠.In)(e:op≠.NotIn):zBF op b=false:=by
 have c:(op == CmpOp.In)=false:=by ext
 have d:(op == CmpOp.NotIn)=false:=by ext
 cases b <;> simp [zBF,c,d]
noncomputable def SS (ta:TE):TE:=fun σ H Q=>ta σ H λx c=>Q (.bl (decide (x=.bq))) c
noncomputable def O5 (ta:TE):TE:=fun σ H Q=>ta σ H λx c=>Q (.bl (!decide (x=.bq))) c
theorem RelV.D3 (r:RelV x v):(v == Value.none)=decide (x=.bq):=by cases x with| bq=>cases r; rfl| bl _=>cases r; rfl| int _=>obtain⟨t,rfl⟩:=r; rfl| str _=>obtain⟨t,rfl⟩:=r; rfl| nM _=>obtain⟨t,rfl⟩:=r; rfl| KL _=>obtain⟨t,rfl⟩:=r; rfl| ref _=>cases r; rfl| ty _=>cases r; rfl
theorem D4 (k:PE X a ta):PC X .Is a (.Constant .none j d) (SS ta):=by intro c s σ H Q I h;exact aQ (k c s σ H _ I h) λv l ⟨x,i,f,e,g⟩=>(Constant_none (is_none_gen ⟨.bl _,i,f,by rw[e.D3]; rfl,g⟩))
theorem QV (k:PE X a ta):PC X .IsNot a (.Constant .none j d) (O5 ta):=by intro c s σ H Q I h;exact aQ (k c s σ H _ I h) λv l ⟨x,i,f,e,g⟩=>(Constant_none (isnot_none_gen ⟨.bl _,i,f,by rw[e.D3]; rfl,g⟩))
noncomputable def tB (t:TE):TT:=fun σ H Q=>t σ H λx d=>∃c,x=.bl c/\Q c d
theorem iU (h:PC X op a b t)(f:zBF op b=false:=by first | exact Nb _ (by decide) (by decide) | rfl):PT X (.Compare a [op] [b] pos) (tB t):=by intro e s σ H Q I i;refine wpAny_isTrue_Compare1 (aQ (h e s σ H _ I i) λv p f=>aQ f λu o n=>aQ n λc r g=>?_) f;obtain⟨x,l,k,j,m⟩:=g;obtain⟨d,rfl,q⟩:=m;cases j;exact zBo ⟨l,k,q⟩
theorem sI (h:PE X e t)(m:∀c,zDf e X.env c=(do let v <-c; zCX e.pos; zBV [v] (truthy v)):=by intro _; rfl):PT X e (tB t):=by intro f s σ H Q I l;refine isTrue_plain (aQ (h f s σ H _ I l) λv n ⟨x,g,j,i,k⟩=>?_) (m _);obtain⟨d,rfl,q⟩:=k;cases i;exact zBo ⟨g,j,q⟩
variable {tA O6:TT}{rest:List zAR}
noncomputable def SV (t u:TT):TT:=fun σ H Q=>t σ H λc d=>if c=true then u σ d Q else Q false d
noncomputable def O7 (t u:TT):TT:=fun σ H Q=>t σ H λc d=>if c=true then Q true d else u σ d Q
noncomputable def SW (t:TT):TT:=fun σ H Q=>t σ H λc d=>Q (!c) d
theorem HV (f:PT X a tA):PW X (.BoolOp .And [a] pos) tA:=by intro g d s σ H Q I h;refine isTrue_and (aQ (f d s σ H Q I h) λc i e=>?_);cases c with| true=>exact isTrue_and_nil e| false=>symm
theorem sJ (f:PT X a tA):PW X (.BoolOp .Or [a] pos) tA:=by intro g d s σ H Q I h;refine isTrue_or (aQ (f d s σ H Q I h) λc i e=>?_);cases c with| false=>exact isTrue_or_nil e| true=>symm
theorem KP (j:PT X a tA)(l:PW X (.BoolOp .And (b::rest) pos) O6):PW X (.BoolOp .And (a::b::rest) pos) (SV tA O6):=by intro e d s σ H Q I h;refine isTrue_and (aQ (j d s σ H _ I h) λc k ⟨g,f,i⟩=>?_);cases c with| true=>exact l e d k σ g Q f i| false=>symm
theorem qE (j:PT X a tA)(l:PW X (.BoolOp .Or (b::rest) pos) O6):PW X (.BoolOp .Or (a::b::rest) pos) (O7 tA O6):=by intro e d s σ H Q I h;refine isTrue_or (aQ (j d s σ H _ I h) λc k ⟨g,f,i⟩=>?_);cases c with| true=>symm| false=>exact l e d k σ g Q f i
theorem nP (d:PT X a tA):PT X (.UnaryOp .Not a pos) (SW tA):=by intro c s σ H Q I h;exact isTrue_not (d c s σ H _ I h)
noncomputable def O8 (ta tb:TE):TE:=fun σ H Q=>ta σ H λx d=>∃c,x=.bl c/\if c=true then tb σ d Q else Q (.bl false) d
theorem vz (h:PE X a t):PE X (.BoolOp op [a] pos) t:=λc s σ H Q I d=>BoolOp_one (h c s σ H Q I d)
theorem zx (l:PE X a ta)(i:PE X (.BoolOp .And (b::rest) pos) tb):PE X (.BoolOp .And (a::b::rest) pos) (O8 ta tb):=by intro d s σ H Q I h;refine BoolOp_and (aQ (l d s σ H _ I h) λv j m=>?_);obtain⟨x,f,g,k,e⟩:=m;obtain⟨c,rfl,e⟩:=e;cases k;refine zBo ?_;cases c with| true=>exact i d j σ f Q g e| false=>exact⟨.bl false,f,g,rfl,e⟩
noncomputable def Xe (t:TT)(ta tb:TE):TE:=fun σ H Q=>t σ H λc d=>if c=true then ta σ d Q else tb σ d Q
theorem yC (m:PT X c tA)(l:PE X a ta)(k:PE X b tb):PE X (.IfExp c a b pos) (Xe tA ta tb):=by intro e s σ H Q I h;refine wpAny_IfExp (aQ (m e s σ H _ I h) λd i ⟨j,g,f⟩=>?_);cases d with| true=>exact l e i σ j Q g f| false=>exact k e i σ j Q g f
end
noncomputable def ay (K:zzA)(H:Hp)(a:M1)(xs:List V):Prop:= Rd H a (.lst xs)\/ ∃(o:Obj) (b:Array Value) (n:Nat),K.lookup a=some o/\o.cls=.type "list"/\o.dict=none/\o.data=.seq b n/\b.size<=PK/\Vals xs b.toList
noncomputable def aG (K:zzA)(H:Hp)(a:M1)(xs:List V):Prop:= Rd H a (.tup xs)\/ ∃(o:Obj) (b:Array Value) (n:Nat),K.lookup a=some o/\o.cls=.type "tuple"/\o.data=.seq b n/\b.size<=PK/\Vals xs b.toList
def D6:Value->Option V| .none=>some .bq| .bool b=>some (.bl b)| .int i _=>some (.int i)| .str x _=>some (.str x)| .bytes b _=>some (.nM b)| .float b _=>some (.KL b)| .ref a=>some (.ref a)| .type n=>some (.ty n)| _=>none
theorem RelV.abs (r:RelV x u):D6 u=some x:=by cases x with| bq=>cases r; rfl| bl _=>cases r; rfl| int _=>obtain⟨t,rfl⟩:=r; rfl| str _=>obtain⟨t,rfl⟩:=r; rfl| nM _=>obtain⟨t,rfl⟩:=r; rfl| KL _=>obtain⟨t,rfl⟩:=r; rfl| ref _=>cases r; rfl| ty _=>cases r; rfl
theorem RelV.inj (r:RelV x u)(q:RelV y u):x=y:=zAy (r.abs.symm.trans q.abs)
theorem Vals.inj:∀{xs ys:List V} {us:List Value},Vals xs us->Vals ys us->xs=ys| _,_,_,.nil,.nil=>rfl| _,_,_,.cons r t,.cons a b=>by rw[r.inj a,Vals.inj t b]
section
variable {X:Cx}{pins:zzC}{σ:St}{H:Hp}{s:VV}{a:M1}{xs ys:List V}
theorem ay.of {K:zzA}(h:H a=some (.lst xs)):ay K H a xs:=.inl (.inl h)
theorem aG.of {K:zzA}(h:H a=some (.tup xs)):aG K H a xs:=.inl (.inl h)
theorem Inv.list (I:Inv X pins σ H s)(h:ay X.K H a xs):∃its:List Value,Vals xs its/\PlainL s.heap a its.toArray/\xs.length<=PK:=by
 rcases h with h | ⟨o,its,n,b,d,c,g,f,r⟩
 ·obtain⟨z,its,n,r,e⟩:=h.ok I.hok;exact⟨its,r,⟨_,n,e,rfl,rfl,rfl⟩,z⟩
 ·refine⟨its.toList,r,⟨o,n,I.pL a o b,d,c,by symm⟩,?_⟩;have e:=r.length;ext
theorem Inv.tuple (I:Inv X pins σ H s)(h:aG X.K H a xs):∃its:List Value,Vals xs its/\zDX s.heap a its.toArray/\xs.length<=PK:=by
 rcases h with h | ⟨o,its,n,c,b,d,f,r⟩
 ·obtain⟨z,its,r,p⟩:=h.ok I.hok;exact⟨its,r,p,z⟩
 ·refine⟨its.toList,r,⟨o,I.pL a o c,b,n,by simpa using d⟩,?_⟩;have e:=r.length;simp only [zBp] at e;ext
theorem Inv.pM (I:Inv X pins σ H s)(h:ay X.K H a xs)(h':ay X.K H a ys):xs=ys:=by
 obtain⟨c,r,⟨o,n,e,_,_,d⟩,_⟩:=I.list h;obtain⟨b,f,⟨i,j,k,_,_,g⟩,_⟩:=I.list h';have:c=b:=by ext
 subst this;exact r.inj f
theorem Inv.BV (I:Inv X pins σ H s)(h:aG X.K H a xs)(h':aG X.K H a ys):xs=ys:=by
 obtain⟨c,r,⟨o,e,_,n,d⟩,_⟩:=I.tuple h;obtain⟨b,f,⟨i,k,_,j,g⟩,_⟩:=I.tuple h';have:c=b:=by ext
 subst this;exact r.inj f
end
abbrev Cx.rA (X:Cx) (E:zzE):Cx:={ X with xe:=E }
abbrev Cx.O9 (X:Cx):Cx:=X.rA λ_ _=>False
theorem Cx.Ok.rA {X:Cx}(a:X.Ok)(E:zzE):(X.rA E).Ok:=⟨a.mod,a.kind,a.glob,a.blt,a.above,a.inj,a.has,a.KO,a.hd,a.frames,a.stk,a.SO,a.bs,a.zv,a.DV,a.DW,a.om,a.DX⟩
theorem Cx.Ok.nQ {X:Cx}(a:(X.rA E).Ok):X.Ok:=⟨a.mod,a.kind,a.glob,a.blt,a.above,a.inj,a.has,a.KO,a.hd,a.frames,a.stk,a.SO,a.bs,a.zv,a.DV,a.DW,a.om,a.DX⟩
section
variable {X:Cx}{pins:zzC}{σ:St}{H:Hp}{s:VV}{E:zzE}
theorem Inv.rA (I:Inv X pins σ H s)(E:zzE):Inv (X.rA E) pins σ H s:=⟨I.ok.rA E,I.os,I.bare,I.base,I.loc,I.cell,I.free,I.kT,I.pin,I.hok,I.len⟩
theorem Inv.nQ (I:Inv (X.rA E) pins σ H s):Inv X pins σ H s:=⟨I.ok.nQ,I.os,I.bare,I.base,I.loc,I.cell,I.free,I.kT,I.pin,I.hok,I.len⟩
theorem SP.nQ (h:SP (X.rA E) pins D f s'):SP X pins D f s':=by cases f with| next=>obtain⟨a,b,I,q⟩:=h; exact⟨a,b,I.nQ,q⟩| brk=>obtain⟨a,b,I,q⟩:=h; exact⟨a,b,I.nQ,q⟩| cont=>obtain⟨a,b,I,q⟩:=h; exact⟨a,b,I.nQ,q⟩| ret u=>obtain⟨v,a,b,I,r,q⟩:=h; exact⟨v,a,b,I.nQ,r,q⟩
theorem sE.O9 {st:List zAL}(h:sE X.O9 st t):sE X st t:=λpins s σ H D I a=> zB3 (h pins s σ H D (I.rA _) a) (λ_ _ q=>q.nQ) λ_ _ z=>False.elim z
end
section
variable {X:Cx}{st:zAL}{rest:List zAL}{t u:TS}{e:zAR}{te:TE}{pos:Pos}
noncomputable def xx:TS:=λD σ H=>D.nx σ H
noncomputable def eY (t u:TS):TS:=λD σ H=>t { D with nx:=u D } σ H
theorem aW:sE X [] xx:=λ_ _ σ H _ I h=>zDM ⟨σ,H,I,h⟩
theorem aj (d:PS X st t)(j:sE X rest u):sE X (st::rest) (eY t u):=by intro a s σ H D I h;refine wpAny_execs_cons (aQ (d a s σ H _ I h) λf i q=>?_);cases f with| next=> obtain⟨g,b,c,q⟩:=q;exact j a i g b D c q| ret v=>symm| brk=>symm| cont=>symm
theorem av (b:PS X st t):sE X [st] t:=by intro a s σ H D I h;refine wpAny_execs_cons (aQ (b a s σ H D I h) λf c q=>?_);cases f with| next=>exact zDM q| ret v=>symm| brk=>symm| cont=>symm
theorem Inv.quiet (I:Inv X a σ H s):interactive X.env=false:=by simp [interactive,I.ok.kind]
noncomputable def zy (te:TE):TS:=λD σ H=>te σ H λ_ a=>D.nx σ a
theorem cU (g:PE X e te)(f:zBR e none pos.line X.env=pure false:=by rfl):PS X (.Expr e pos) (zy te):=by intro a s σ H D I h;exact wpAny_Expr_any (aQ (g a s σ H _ I h) λv j ⟨x,b,d,i,c⟩=>⟨σ,b,d,c⟩) I.quiet f
noncomputable def D7 (te:TE):TS:=λD σ H=>te σ H D.rt
theorem aK (g:PE X e te):PS X (.Return (some e) pos) (D7 te):=by intro a s σ H D I h;exact wpAny_Return_some (aQ (g a s σ H _ I h) λv i ⟨x,b,d,c,f⟩=>⟨x,σ,b,d,c,f⟩)
noncomputable def AW (c:TT)(t u:TS):TS:=λD σ H=>c σ H λb a=>if b=true then t D σ a else u D σ a
theorem bG (n:PT X c l)(o:sE X a t)(m:sE X b u):PS X (.If c a b pos) (AW l t u):=by intro f s σ H D I h;refine wpAny_If (aQ (n f s σ H _ I h) λd k ⟨j,i,g⟩=>?_);cases d with| true=>exact o f k σ j D i g| false=>exact m f k σ j D i g
end
abbrev TG:=V->St->Hp->(St->Hp->Prop)->Prop
abbrev HX:=List V->St->Hp->(St->Hp->Prop)->Prop
noncomputable def PG (X:Cx)(a:zAR)(t:TG):Prop:= ∀(b:zzC) (s:VV) (σ:St) (H:Hp) (v:V) (u:Value) (Q:St->Hp->Prop),Inv X b σ H s->RelV v u->t v σ H Q-> zAC (zAD X.prog X.w) X.A (assign a X.env u) (λ_ e=>∃d c,Inv X b d c e/\Q d c) X.xe s
noncomputable def KQ (X:Cx)(ts:List zAR)(t:HX):Prop:= ∀(a:zzC) (s:VV) (σ:St) (H:Hp) (c:List V) (d:List Value) (Q:St->Hp->Prop),Inv X a σ H s->Vals c d->t c σ H Q-> zAC (zAD X.prog X.w) X.A (assignInOrder ((zCD ts X.env).map (·.2)) d) (λ_ f=>∃e b,Inv X a e b f/\Q e b) X.xe s
section
variable {X:Cx}{pos:Pos}
noncomputable def cz (i:Nat):TG:=λv σ H Q=>Q (σ.set i (some v)) H
theorem QW (b:X.N.Nodup)(c:X.N[i]?=some x)(d:Loc X.env.scope x)(e:X.fn x=true\/X.env.scope.names.lookup x=some .local:=by first | exact .inl rfl | exact .inr rfl | symm):PG X (.Name x pos) (cz i):=by intro a s σ H v u Q I r h;exact wpAny_assign_Name (D0 I b c d r (λg f=>⟨_,H,f,h⟩) e)
noncomputable def t_:HX:=λa σ H Q=>a=[]/\Q σ H
noncomputable def gJ (t:TG)(u:HX):HX:=λa σ H Q=>∃v r,a=v::r/\t v σ H λc b=>u r c b Q
theorem fm:KQ X [] t_:=by intro a s σ H b c Q I r h;obtain⟨e,h⟩:=h;exact assignInOrder_nil (by grind)
theorem aY (i:PG X e t)(b:KQ X es u)(l:(zCD (e::es) X.env).map (·.2)=assign e X.env::(zCD es X.env).map (·.2):=by rfl):KQ X (e::es) (gJ t u):=by intro a s σ H q p Q I r h;obtain⟨v,o,f,h⟩:=h;subst f;cases r with| cons r d=> rw[l];refine assignInOrder_cons (aQ (i a s σ H _ _ _ I r h) λ_ c m=>?_);obtain⟨j,n,g,k⟩:=m;exact b a c j n _ _ Q g d k
noncomputable def rB (K:zzA)(n:Nat)(t:HX):TG:=λv σ H Q=>∃a c,v=.ref a/\aG K H a c/\c.length=n/\t c σ H Q
theorem SX {k:Nat}(y:X.calm=true)(h:KQ X es t)(l:(zCD es X.env).length=n:=by rfl) (f:(zCD es X.env).findIdx? (·.1)=none:=by rfl):PG X (.Tuple es k pos) (rB X.K n t):=by intro c s σ H v u Q I r d;obtain⟨a,q,j,g,i,d⟩:=d;subst j;cases r;obtain⟨w,z,m,A⟩:=I.tuple g;refine assign_Tuple_tuple (I.ok.hd y) m (by simp [l,<-i,z.length]) f λB x=>?_;have p:=I.kept (t':=s.toks) λb o e=>x b o (wE (vT e)) e;exact h c _ σ H q _ Q p ‹_› d
noncomputable def AX (a:TE)(g:TG):TS:=λD σ H=>a σ H λx b=>g x σ b D.nx
theorem SY (d:X.N.Nodup)(l:X.N[i]?=some x)(f:Loc X.env.scope x)(p:PE X e c)(k:zBR e (some (.Name x a)) pos.line X.env=pure false:=by rfl)(q:X.fn x=true\/X.env.scope.names.lookup x=some .local:=by first | exact .inl rfl | exact .inr rfl | symm) : PS X (.Assign [.Name x a] e pos) (AX c (cz i)):=by intro b s σ H D I h;refine wpAny_Assign_Name (aQ (p b s σ H _ I h) λv t r=>?_) k;obtain⟨y,g,o,n,j⟩:=r;exact D0 o d l f n (λu m=>⟨_,g,m,j⟩) q
end
structure It where
 go:Nat->Hp->Prop
 BW:Nat->Hp->V->Hp->Prop
 stop:Nat->Hp->Prop
noncomputable def lR (X:Cx)(a:zzC)(H:Hp)(b:M1):Prop:= H b=none/\b≠X.env.locals/\b∉X.fs/\(b∈X.ex\/X.s₀.heap.objs.size<=b)/\(∀x c,X.env.cells.lookup x=some c->c≠b)/\∀p∈X.pn++a,p.1≠b
theorem Inv.vA {X:Cx}{a:zzC}{σ:St}{H H':Hp}{s:VV}{b:M1}(I:Inv X a σ H s)(d:s.heap.objs.size<=b)(g:H' b=none):lR X a H' b:=by
 refine⟨g,zCq (wS I.lt d),I.YM d,.inr (zAv I.sz d),λx c e z=>?_,λp f z=>?_⟩
 ·obtain⟨v,q⟩:=I.cell x c e;exact absurd (wS q.lt (by ext)) (zBl _)
 ·exact absurd (wS (vT (I.pin p f).1) (by ext)) (zBl _)
structure Turn (P:zAA)(w:zAE)(K:zzA)(tg:zAR)(J:It)(fp:List M1)(it:M1)(tn:Nat->Heap->Prop):Prop where
 mem:it∈fp
 obj:∀i h,tn i h->∀b∈fp,∃o,h.get? b=some o/\∀v,o.data≠.cell v
 keep:∀i h h',tn i h->(∀b∈fp,∀o,h.get? b=some o->h'.get? b=some o)->tn i h'
 item:∀(X:Cx),X.prog=P->X.w=w->X.K=K->X.calm=true->∀(i:Nat) (pins:zzC) (s:VV) (σ:St) (H:Hp) (E:zzE),Inv X pins σ H s->(∀b∈fp,lR X pins H b)->tn i s.heap->J.go i H-> zAC (zAD P w) X.A (zBU (.ref it)) (λr s1=>∃u,r=some u/\ zAC (zAD P w) X.A (zCK tg (.ref it) u) (λ_ s2=>∃x H',Inv X pins σ H' s2/\RelV x u/\J.BW i H x H'/\tn (i+1) s2.heap/\∀b∈fp,H' b=none) E s1) E s
 done:∀(X:Cx),X.prog=P->X.w=w->X.K=K->X.calm=true->∀(i:Nat) (pins:zzC) (s:VV) (σ:St) (H:Hp) (E:zzE),Inv X pins σ H s->(∀b∈fp,lR X pins H b)->tn i s.heap->J.stop i H-> zAC (zAD P w) X.A (zBU (.ref it)) (λr s1=>r=none/\Inv X pins σ H s1) E s
 self:∀(A:zAI) (i:Nat) (s:VV) (Q:zzE) (E:zzE),tn i s.heap->Q (.ref it) s->zAC (zAD P w) A (zDe (.ref it)) Q E s
abbrev TI:=St->Hp->(It->Hp->Prop)->Prop
noncomputable def S1 (X:Cx)(a:zzC)(σ:St)(i:zAR)(R:It->Hp->Prop)(c:Value)(h:VV):Prop:= ∃(f:M1) (e:List M1) (g:Nat->Heap->Prop) (J:It) (d:Hp),c=.ref f/\Inv X a σ d h/\Turn X.prog X.w X.K i J e f g/\g 0 h.heap/\(∀b∈e,lR X a d b)/\R J d
noncomputable def PI (X:Cx)(d b:zAR)(c:TI):Prop:= ∀(a:zzC) (s:VV) (σ:St) (H:Hp) (R:It->Hp->Prop),Inv X a σ H s->c σ H R-> zAC (zAD X.prog X.w) X.A (zAM b X.env) (λv e=>zAC (zAD X.prog X.w) X.A (zDe v) (S1 X a σ d R) X.xe e) X.xe s
theorem zz {M:Model}{A:zAI}{E:zzE}{s:VV}{c:zAR}{b:M1}{u:Value}{o:Obj}{n:String}{vs:Array Value}{Q:Unit->VV->Prop}(d:s.heap.get? b=some o)(f:o.cls=.type n)(g:o.data=.fields vs)(e:["enumerate","zip","dict_itemiterator","dict_reverseitemiterator","odict_iterator","itertools.zip_longest","itertools.pairwise"].contains n=false) (a:Q () s):zAC M A (zCK c (.ref b) u) Q E s:=by unfold zCK;cases c <;> first| exact y4 a| (cases u <;> first| exact y4 a| (refine yA (wpAny_load d ?_); rw[f,g]; show zAC M A (if (["enumerate","zip","dict_itemiterator","dict_reverseitemiterator","odict_iterator","itertools.zip_longest","itertools.pairwise"].contains n&&vs[0]? == some (zBX _))=true then _ else _) Q E s; rw[xI (by intro h; rw[e,zC1] at h; cases h)]; exact y4 a))
noncomputable def mW (K:zzA)(a:M1):It:=⟨λi H=>∃b x,ay K H a b/\b[i]?=some x,λi H x d=>d=H/\∀b,ay K H a b->b[i]?=some x,λi H=>∃b,ay K H a b/\b.length<=i⟩
noncomputable def zA (K:zzA)(a:M1):It:=⟨λi H=>∃b x,aG K H a b/\b[i]?=some x,λi H x d=>d=H/\∀b,aG K H a b->b[i]?=some x,λi H=>∃b,aG K H a b/\b.length<=i⟩
noncomputable def qF (lo:Int)(n:Nat):It:=⟨λi _=>i < n,λi H x a=>a=H/\x=.int (lo+i),λi _=>n<=i⟩
theorem KR {K:zzA}(a g:M1):Turn P w K S (mW K a) [g] g (λi h=>h.IsListIter g a i) where
 mem:=by simp
 obj:=λi h st b J=>by obtain⟨o,e,c,d⟩:=st;ext
 keep:=λi h N st k=>st.at (by ext);item:=by intro X C A v L i j s σ H E I F st D;subst C A v;refine hold λO z=>?_;obtain⟨V,x,l,M⟩:=D;obtain⟨t,n,p,Q⟩:=I.list l;obtain⟨u,hu,Y⟩:=n.get M;obtain⟨B,q,T,r,G,y⟩:=F g (by simp);refine z ?_;refine wpAny_pyNext_list_item st p.isList (x:=u) (by ext) λN f U=>?_;have R:=I.turned (t':=s.toks) (λb o J e=>(U.2 b J).trans e) B q r G y;obtain⟨o,e,c,d⟩:=id f;exact⟨u,rfl,zz e c d (by decide) ⟨x,H,R,Y,⟨rfl,λZ W=>by rw[I.pM W l]; symm⟩,f,(by ext)⟩⟩
 done:=by intro X C A v L i j s σ H E I F st D;subst C A v;obtain⟨V,l,M⟩:=D;obtain⟨t,n,p,Q⟩:=I.list l;obtain⟨B,q,T,r,G,y⟩:=F g (by simp);have hl:=n.length;exact wpAny_pyNext_list_end (I.ok.hd L) st p.isList (by ext) λN eb=>⟨rfl,I.turned ‹_› B q r G y⟩
 self:=λ_ _ _ _ _ st h=>wpAny_pyIter_listiter st h
theorem Jv {K:zzA}(a g:M1):Turn P w K S (zA K a) [g] g (λi h=>h.IsTupleIter g a i) where
 mem:=by simp
 obj:=λi h st b J=>by obtain⟨o,e,c,d⟩:=st;ext
 keep:=λi h N st k=>st.at (by ext);item:=by intro X C A v L i j s σ H E I F st D;subst C A v;refine hold λO z=>?_;obtain⟨V,x,l,M⟩:=D;obtain⟨t,n,p,Q⟩:=I.tuple l;obtain⟨u,hu,Y⟩:=n.get M;obtain⟨B,q,T,r,G,y⟩:=F g (by simp);refine z ?_;refine wpAny_pyNext_tuple_item st ‹_› (x:=u) (by ext) λN f U=>?_;have R:=I.turned (t':=s.toks) (λb o J e=>(U.2 b J).trans e) B q r G y;obtain⟨o,e,c,d⟩:=id f;exact⟨u,rfl,zz e c d (by decide) ⟨x,H,R,Y,⟨rfl,λZ W=>by rw[I.BV W l]; symm⟩,f,(by ext)⟩⟩
 done:=by intro X C A v L i j s σ H E I F st D;subst C A v;obtain⟨V,l,M⟩:=D;obtain⟨t,n,p,Q⟩:=I.tuple l;obtain⟨B,q,T,r,G,y⟩:=F g (by simp);have hl:=n.length;exact wpAny_pyNext_tuple_end (I.ok.hd L) st ‹_› (by ext) λN eb=>⟨rfl,I.turned ‹_› B q r G y⟩
 self:=λ_ _ _ _ _ st h=>wpAny_pyIter_tupleiter st h
theorem Jw {K:zzA}(c:M1)(lo:Int)(n:Nat):Turn P w K B (qF lo n) [c] c (λi h=>IsRangeIter h c (lo+(i:Nat) * 1) ((n:Int) - (i:Nat)) 1) where
 mem:=by simp
 obj:=λi h st b F=>by ext
 keep:=λi h f st k=>k c (by simp) _ st;item:=by intro X y z A g i a s σ H E I q st m;subst y z A;obtain⟨l,p,C,u,r,j⟩:=q c (by simp);have W:=Walks.range (prog:=X.prog) (w:=X.w) (I.ok.hd g) c lo 1 n;refine W.item i s _ _ m st λv f G D d J=>?_;obtain⟨t,rfl⟩:=D;have L:Inv X a σ H { s with heap:=f,toks:=G }:=I.turned (λb o F e=>J b o (by ext) e) l p u r j;refine⟨_,rfl,zz d rfl rfl (by decide) ⟨.int _,H,L,⟨t,?_⟩,⟨rfl,rfl⟩,d,(by ext)⟩⟩;simp
 done:=by intro X y z A g i a s σ H E I q st m;obtain⟨l,p,C,u,r,j⟩:=q c (by simp);exact wpAny_pyNext_range_end (I.ok.hd g) st (by have:n<=i:=m; lia) λf M=>⟨rfl,I.turned ‹_› l p u r j⟩
 self:=λ_ _ _ _ _ st h=>wpAny_pyIter_rangeiter st h
section
variable {X:Cx}{tg:zAR}
noncomputable def oV (K:zzA)(d:TE):TI:=fun σ H R=>d σ H λx c=>∃a,x=.ref a/\(∃e,ay K c a e)/\R (mW K a) c
noncomputable def D8 (K:zzA)(d:TE):TI:=fun σ H R=>d σ H λx c=>∃a,x=.ref a/\(∃e,aG K c a e)/\R (zA K a) c
theorem QX (i:PE X l g):PI X tg l (oV X.K g):=by
 intro c s σ H R I h;refine aQ (i c s σ H _ I h) λv f m=>?_;obtain⟨x,n,d,t,k⟩:=m;obtain⟨a,e,⟨z,j⟩,q⟩:=k;subst e;cases t;obtain⟨r,w,p,y⟩:=d.list j;refine zCx p.isList ?_;refine⟨f.heap.objs.size,[f.heap.objs.size],_,_,n,rfl,d.kept λb o e=>y1 _ e,KR a _,⟨_,u3 _ rfl,rfl,rfl⟩,λb u=>?_,q⟩;have e:b=f.heap.objs.size:=by ext
 subst e;exact d.vA (y6 _) (d.hok.fresh (y6 _))
theorem S4 (i:PE X l g):PI X tg l (D8 X.K g):=by
 intro c s σ H R I h;refine aQ (i c s σ H _ I h) λv f m=>?_;obtain⟨x,n,d,t,k⟩:=m;obtain⟨a,e,⟨z,j⟩,q⟩:=k;subst e;cases t;obtain⟨r,w,p,y⟩:=d.tuple j;refine wpAny_pyIter_tuple ‹_› ?_;refine⟨f.heap.objs.size,[f.heap.objs.size],_,_,n,rfl,d.kept λb o e=>y1 _ e,Jv a _,⟨_,u3 _ rfl,rfl,rfl⟩,λb u=>?_,q⟩;have e:b=f.heap.objs.size:=by ext
 subst e;exact d.vA (y6 _) (d.hok.fresh (y6 _))
theorem D9 {a:zzC}{σ:St}{H:Hp}{s:VV}{R:It->Hp->Prop}{E:zzE}{lo c:Int}{t u v:Tok}{f:Nat}(I:Inv X a σ H s)(k:-(2 ^ 62)<=lo)(g:lo < 2 ^ 62)(j:-(2 ^ 62)<=c)(h:c < 2 ^ 62)(q:R (qF lo (c - lo).toNat) H):zAC (zAD X.prog X.w) X.A (zDe (.ref s.heap.objs.size)) (S1 X a σ tg R) E { s with heap:=s.heap.push { cls:=.type "range",data:=.fields #[.int lo t,.int c u,.int 1 v] },toks:=f }:=by
 refine wpAny_pyIter_range (IsRange.new ..) (small_one k g j h) ?_;have d:Inv X a σ H { s with heap:=s.heap.push { cls:=.type "range",data:=.fields #[.int lo t,.int c u,.int 1 v] },toks:=f }:=I.kept λb o e=>y1 _ e;refine⟨(s.heap.push _).objs.size,[(s.heap.push _).objs.size],_,_,H,rfl, d.kept λb o e=>y1 _ e,Jw _ lo _,?_,λb m=>?_,q⟩
 ·have i:lo+((0:Nat)) * 1=lo:=by simp
  have l:(((c - lo).toNat)) - ((0:Nat))=Builtin.Range.rangeSize lo c 1:=by rw[rangeSize_one]; lia
  rw[i,l];exact u3 _ rfl
 ·have e:b=(s.heap.push { cls:=.type "range",data:=.fields #[.int lo t,.int c u,.int 1 v] }).objs.size:=by ext
  subst e;exact d.vA (y6 _) (d.hok.fresh (y6 _))
noncomputable def xy (c:TA):TI:=fun σ H R=>c σ H λa b=>∃j:Int,a=[.int j]/\-(2 ^ 62)<=j/\j < 2 ^ 62/\R (qF 0 j.toNat) b
noncomputable def Jx (c:TA):TI:=fun σ H R=>c σ H λa b=>∃i j:Int,a=[.int i,.int j]/\(-(2 ^ 62)<=i/\i < 2 ^ 62/\-(2 ^ 62)<=j/\j < 2 ^ 62)/\R (qF i (j - i).toNat) b
theorem bP (w:Gl X "range")(n:X.mg "range"=none)(m:PA X [a] g)(k:zAG [a] X.env=[(false,zAM a X.env)]:=by rfl):PI X tg (.Call (.Name "range" p) [a] [] b) (xy g):=by intro c s σ H R I h;refine Call_ (nO I w n boot_range (zBi (aQ (m b c s σ H _ I h) λA y o=>?_) k rfl));obtain⟨z,x,u,v,f⟩:=o;obtain⟨j,e,f,i,q⟩:=f;subst e;cases v with| cons r l=> cases l;obtain⟨t,rfl⟩:=r;exact call_range_1 (D9 u (by simp) (by simp) f i (by simpa using q))
theorem BX (A:Gl X "range")(n:X.mg "range"=none)(u:PA X [a,b] m)(D:zAG [a,b] X.env=[(false,zAM a X.env),(false,zAM b X.env)]:=by rfl)(l:zAG [b] X.env=[(false,zAM b X.env)]:=by rfl) : PI X tg (.Call (.Name "range" p) [a,b] [] d) (Jx m):=by intro f s σ H R I h;refine Call_ (nO I A n boot_range (zBi (aQ (u d f s σ H _ I h) λE B ⟨C,G,x,o,k⟩=>?_) (by ext) (by rw[l]; rfl)));obtain⟨i,j,e,⟨k,v,z,y⟩,q⟩:=k;subst e;cases o with| cons r g=> cases g with| cons w g=> cases g;obtain⟨t,rfl⟩:=r;obtain⟨F,rfl⟩:=w;exact call_range_2 (D9 x k v z y q)
noncomputable def lS (d:TI)(g:TG)(f:TS):TS:=λD σ H=>d σ H λJ e=>∃W:Nat->Nat->St->Hp->Prop,(∃m,W 0 m σ e)/\∀i m σ H,W i m σ H->(J.stop i H/\D.nx σ H)\/(J.go i H/\∃N:St->Hp->Prop,(∀c a,N c a->∃b,b < m/\W (i+1) b c a)/\∀x a,J.BW i H x a->g x σ a λj h=>f { D with nx:=N,ct:=N,bk:=D.nx } j h)
noncomputable def vB (fp:List M1)(h:Heap):zzC:=fp.filterMap λb=>(h.get? b).map λo=>(b,o)
theorem ua (a:b∈fp)(e:h.get? b=some o):(b,o)∈vB fp h:=List.mem_filterMap.mpr ⟨b,a,by ext⟩
theorem KS (a:p∈vB fp h):p.1∈fp/\h.get? p.1=some p.2:=by obtain⟨b,c,e⟩:=List.mem_filterMap.mp a;cases q:h.get? b with| none=>ext| some o=> grind
theorem Inv.pinned (I:Inv X a σ H s)(d:∀b∈fp,lR X a H b)(i:∀b∈fp,∃o,s.heap.get? b=some o/\∀v,o.data≠.cell v):Inv X (a++vB fp s.heap) σ H s:= I.HU λp c=>(w8.mp c).elim (λz=>I.pin p (zBu _ z)) λz=>by obtain⟨f,e⟩:=KS z;obtain⟨g,h,j,_⟩:=d _ f;grind
theorem Inv.yD (I:Inv X (a++b) σ H s):Inv X a σ H s:=I.HU λp c=>I.pin p (by ext)
theorem cS (L:PassesOwn (zAD X.prog X.w) X.A X.env X.xe)(hc:X.calm=true)(hi:PI X tg c wi)(hg:PG X tg g)(p:sE X w tb)(hs:∀x,zBH c X.env x=pure x:=by intro _; rfl):PS X (.For tg c w [] Z) (lS wi g tb):=by
 intro a s σ H D I h;refine wpAny_For (aQ (hi a s σ H _ I h) λv s1 h1=>aQ h1 λitv s2 h2=>?_) hs;refine hold λZK Y=>?_;obtain⟨it,M,tn,J,H2,e,I2,T,V,f2,W,⟨m0,w0⟩,B⟩:=h2;refine Y ?_;subst e;have l:∀{t:Hp},(∀b∈M,t b=none)->∀b∈M,lR X a t b:=λhn b p=>⟨hn b p,(f2 b p).2⟩;refine codeAny_forLoop_any (λn s'=>∃i E t,Inv X a E t s'/\tn i s'.heap/\(∀b∈M,t b=none)/\W i n E t) ?_ m0 ⟨0,σ,H2,I2,V,λb p=>(f2 b p).1,w0⟩;rintro n s3 ⟨i,F,O,I3,K,C,w3⟩;rcases B i n F O w3 with ⟨G,qn⟩ | ⟨go,N,hN,step⟩
 ·refine zBL L (aQ (T.done X rfl rfl rfl hc i a s3 F O X.xe I3 (l C) K G) λr s4 ⟨P,I4⟩=>?_);subst P;exact zDM ⟨F,O,I4,qn⟩
 ·refine zBL L (aQ (T.item X rfl rfl rfl hc i a s3 F O X.xe I3 (l C) K go) λr s4 ⟨u,P,h4⟩=>?_);subst P;refine zBL L (aQ h4 λ_ s5 S=>?_);obtain⟨x,H5,I5,r5,y5,z,U⟩:=S;have R:=I5.pinned (l U) (T.obj _ _ z);refine zBL L (aQ (hg _ s5 F H5 x u _ R r5 (step x H5 y5)) λ_ s6 S=>?_);obtain⟨σ6,H6,I6,q6⟩:=S;refine zBL L (aQ (p _ s6 σ6 H6 _ I6 q6) λf Q y=>?_);have again:∀{j:St} {k:Hp},Inv X _ j k Q->N j k->∃m,m < n/\∃i E t,Inv X a E t Q/\tn i Q.heap/\(∀b∈M,t b=none)/\W i m E t:=λ{j k} q A=>by obtain⟨m',hm,w7⟩:=hN j k A;refine⟨m',hm,i+1,j,k,q.yD,T.keep _ _ _ z λb p o e=>(q.pin _ (zBu _ (zBu _ (ua p e)))).1,λb p=>?_,w7⟩;obtain⟨o,e,d⟩:=T.obj _ _ z b p;exact (q.pin _ (zBu _ (zBu _ (ua p e)))).2.1
  cases f with| next=>obtain⟨j,k,q,A⟩:=y; exact again q A| cont=>obtain⟨j,k,q,A⟩:=y; exact again q A| brk=>obtain⟨j,k,q,y⟩:=y; exact⟨j,k,q.yD,y⟩| ret v=>obtain⟨x7,j,k,q,r7,y⟩:=y; exact⟨x7,j,k,q.yD,r7,y⟩
end
theorem yE {K:zzA}{a:M1}{xs:List V}{g:TG}{k:TS}{D:Ends}{σ:St}{H:Hp}(b:Nat->St->Hp->Prop)(u:b 0 σ H)(n:∀i σ H,i<=xs.length->b i σ H->ay K H a xs)(r:∀i x σ H,xs[i]?=some x->b i σ H->g x σ H λd j=>k { D with nx:=b (i+1),ct:=b (i+1),bk:=D.nx } d j) (s:∀σ H,b xs.length σ H->D.nx σ H) : ∃W:Nat->Nat->St->Hp->Prop,(∃m,W 0 m σ H)/\∀i m σ H,W i m σ H->((mW K a).stop i H/\D.nx σ H)\/((mW K a).go i H/\∃N:St->Hp->Prop,(∀f H',N f H'->∃l,l < m/\W (i+1) l f H')/\∀x H',(mW K a).BW i H x H'->g x σ H' λd j=>k { D with nx:=N,ct:=N,bk:=D.nx } d j):=by
 refine⟨λi m σ H=>m=xs.length - i/\i<=xs.length/\b i σ H,(by ext),?_⟩;rintro i m σ H ⟨rfl,t,p⟩;have q:=n i σ H t p;by_cases h:i < xs.length
 ·refine .inr ⟨⟨xs,xs[i],q,by simp⟩,b _,λf H' o=>⟨xs.length - (i+1),by grind,rfl,h,o⟩,λx H' y=>?_⟩;obtain⟨e,y⟩:=y;subst e;exact r i x σ _ (y xs q) p
 ·have e:i=xs.length:=by lia
  subst e;exact .inl ⟨⟨xs,q,y6 _⟩,s σ H p⟩
theorem QY {K:zzA}{a:M1}{xs:List V}{g:TG}{k:TS}{D:Ends}{σ:St}{H:Hp}(b:Nat->St->Hp->Prop)(u:b 0 σ H)(n:∀i σ H,i<=xs.length->b i σ H->aG K H a xs)(r:∀i x σ H,xs[i]?=some x->b i σ H->g x σ H λd j=>k { D with nx:=b (i+1),ct:=b (i+1),bk:=D.nx } d j) (s:∀σ H,b xs.length σ H->D.nx σ H) : ∃W:Nat->Nat->St->Hp->Prop,(∃m,W 0 m σ H)/\∀i m σ H,W i m σ H->((zA K a).stop i H/\D.nx σ H)\/((zA K a).go i H/\∃N:St->Hp->Prop,(∀f H',N f H'->∃l,l < m/\W (i+1) l f H')/\∀x H',(zA K a).BW i H x H'->g x σ H' λd j=>k { D with nx:=N,ct:=N,bk:=D.nx } d j):=by
 refine⟨λi m σ H=>m=xs.length - i/\i<=xs.length/\b i σ H,(by ext),?_⟩;rintro i m σ H ⟨rfl,t,p⟩;have q:=n i σ H t p;by_cases h:i < xs.length
 ·refine .inr ⟨⟨xs,xs[i],q,by simp⟩,b _,λf H' o=>⟨xs.length - (i+1),by lia,rfl,h,o⟩,λx H' y=>?_⟩;obtain⟨e,y⟩:=y;subst e;exact r i x σ _ (y xs q) p
 ·have e:i=xs.length:=by lia
  subst e;exact .inl ⟨⟨xs,q,y6 _⟩,s σ H p⟩
theorem BY {lo:Int}{n:Nat}{g:TG}{h:TS}{D:Ends}{σ:St}{H:Hp}(b:Nat->St->Hp->Prop)(r:b 0 σ H)(o:∀i σ H,i < n->b i σ H->g (.int (lo+i)) σ H λf c=>h { D with nx:=b (i+1),ct:=b (i+1),bk:=D.nx } f c) (k:∀σ H,b n σ H->D.nx σ H) : ∃W:Nat->Nat->St->Hp->Prop,(∃m,W 0 m σ H)/\∀i m σ H,W i m σ H->((qF lo n).stop i H/\D.nx σ H)\/((qF lo n).go i H/\∃N:St->Hp->Prop,(∀d H',N d H'->∃j,j < m/\W (i+1) j d H')/\∀x H',(qF lo n).BW i H x H'->g x σ H' λf c=>h { D with nx:=N,ct:=N,bk:=D.nx } f c):=by
 refine⟨λi m σ H=>m=n - i/\i<=n/\b i σ H,(by ext),?_⟩;rintro i m σ H ⟨rfl,q,p⟩;by_cases a:i < n
 ·refine .inr ⟨a,b _,λd H' l=>⟨n - (i+1),by grind,rfl,a,l⟩,λx H' y=>?_⟩;obtain⟨e,y⟩:=y;subst e y;exact o i σ _ a p
 ·have e:i=n:=by lia
  subst e;exact .inl ⟨‹_›,k σ H p⟩
abbrev R2:=V->V->Hp->VK->Prop
noncomputable def dU (X:Cx)(f:Value->Value->Sem Value)(r:R2):Prop:= ∀(a:zzC) (s:VV) (σ:St) (H:Hp) (x y:V) (v u:Value) (Q:VK),Inv X a σ H s->RelV x v->RelV y u->r x y H Q-> zAC (zAD X.prog X.w) X.A (f v u) (EP X a σ Q) X.xe s
noncomputable def S9 (X:Cx)(f:Value->Sem Value)(r:V->Hp->VK->Prop):Prop:= ∀(a:zzC) (s:VV) (σ:St) (H:Hp) (x:V) (v:Value) (Q:VK),Inv X a σ H s->RelV x v->r x H Q-> zAC (zAD X.prog X.w) X.A (f v) (EP X a σ Q) X.xe s
noncomputable def b_ (X:Cx)(f:Value)(r:List V->Hp->VK->Prop):Prop:= ∀(a:zzC) (s:VV) (σ:St) (H:Hp) (b:List V) (c:List Value) (Q:VK),Inv X a σ H s->Vals b c->r b H Q-> zAC (zAD X.prog X.w) X.A (call f c) (EP X a σ Q) X.xe s
noncomputable def YN (X:Cx)(r:V->Hp->(Bool->Hp->Prop)->Prop):Prop:= ∀(a:zzC) (s:VV) (σ:St) (H:Hp) (x:V) (v:Value) (Q:Bool->Hp->Prop),Inv X a σ H s->RelV x v->r x H Q-> zAC (zAD X.prog X.w) X.A (truthy v) (TP X a σ Q) X.xe s
noncomputable def cT (r:R2)(a d:TE):TE:=fun σ H Q=>a σ H λx c=>d σ c λy b=>r x y b Q
noncomputable def zB (r:V->Hp->VK->Prop)(a:TE):TE:=fun σ H Q=>a σ H λx b=>r x b Q
noncomputable def rI (C:Int->Int->Prop)(g:Int->Int->V):R2:=λx y H Q=>∃i j,x=.int i/\y=.int j/\C i j/\Q (g i j) H
noncomputable def oM (g:Int->Int->V):R2:=λx y H Q=>∃i j,x=.int i/\y=.int j/\Q (g i j) H
noncomputable def rU (g:Int->V):V->Hp->VK->Prop:=λx H Q=>∃i,x=.int i/\Q (g i) H
section
variable {X:Cx}{a b c:zAR}{ta tb tc:TE}{pos:Pos}
theorem Nc (l:PE X a ta)(n:PE X b tb){R:V->V->Hp->Prop}(I:Inv X d σ H s)(h:ta σ H λx i=>tb σ i λy e=>R x y e) {f:Value->Value->Sem Value}(t:∀v u g x y e,Inv X d σ e g->RelV x v->RelV y u->R x y e->zAC (zAD X.prog X.w) X.A (f v u) Q X.xe g) : zAC (zAD X.prog X.w) X.A (zAM a X.env) (λv o=>zAC (zAD X.prog X.w) X.A (zAM b X.env) (λu j=>zAC (zAD X.prog X.w) X.A (f v u) Q X.xe j) X.xe o) X.xe s:=by exact aQ (l d s σ H _ I h) λv z ⟨x,i,q,p,k⟩=>(aQ (n d z σ i _ q k) λu g ⟨y,e,w,r,m⟩=>(t v u g x y e w p r m))
theorem aC (g:dU X (zAV op) r)(i:PE X a ta)(m:PE X b tb):PE X (.BinOp a op b pos) (cT r ta tb):=by intro d s σ H Q I h;exact wpAny_BinOp (Nc i m I h λv u f x y l k j e q=>g d f σ l x y v u Q k j e q)
theorem eF (i:S9 X (unaryOp op) r)(l:PE X a ta):PE X (.UnaryOp op a pos) (zB r ta):=by intro d s σ H Q I h;exact UnaryOp_ (aQ (l d s σ H _ I h) λv e ⟨x,j,g,f,k⟩=>i d e σ j x v Q g f k)
theorem O_ {f:Value->Value->Sem Value}{C:Int->Int->Prop}{g:Int->Int->Int}(rule:∀(i j:Int) (t u:Tok) (s:VV) (Q:zzE) (E:zzE),C i j->Q (.int (g i j) s.toks) { s with toks:=s.toks+1 }->zAC (zAD X.prog X.w) X.A (f (.int i t) (.int j u)) Q E s) : dU X f (rI C λi j=>.int (g i j)):=by intro d s σ H x y v u Q I l e h;obtain⟨i,j,rfl,rfl,k,q⟩:=h;obtain⟨t,rfl⟩:=l;obtain⟨m,rfl⟩:=e;exact rule i j t m s _ _ k ⟨.int _,H,I.tok _,⟨_,rfl⟩,q⟩
theorem Jy {f:Value->Value->Sem Value}{g:Int->Int->Int}(rule:∀(i j:Int) (t u:Tok) (s:VV) (Q:zzE) (E:zzE),Q (.int (g i j) s.toks) { s with toks:=s.toks+1 }->zAC (zAD X.prog X.w) X.A (f (.int i t) (.int j u)) Q E s) : dU X f (oM λi j=>.int (g i j)):=by intro d s σ H x y v u Q I k e h;obtain⟨i,j,rfl,rfl,q⟩:=h;obtain⟨t,rfl⟩:=k;obtain⟨l,rfl⟩:=e;exact rule i j t l s _ _ ⟨.int _,H,I.tok _,⟨_,rfl⟩,q⟩
theorem Nd {f:Value->Value->Sem Value}{g:Int->Int->Bool}(rule:∀(i j:Int) (t u:Tok) (s:VV) (Q:zzE) (E:zzE),Q (.bool (g i j)) s->zAC (zAD X.prog X.w) X.A (f (.int i t) (.int j u)) Q E s) : dU X f (oM λi j=>.bl (g i j)):=by intro d s σ H x y v u Q I k e h;obtain⟨i,j,rfl,rfl,q⟩:=h;obtain⟨t,rfl⟩:=k;obtain⟨l,rfl⟩:=e;exact rule i j t l s _ _ ⟨.bl _,H,I,rfl,q⟩
noncomputable def YO (i j:Int):Prop:=0 < j/\j < 1073741824
noncomputable def YQ (i j:Int):Prop:=0<=j/\j<=1000000/\i.natAbs < 2 ^ 64
noncomputable def Nf (i j:Int):Prop:=(-(2 ^ 64) < i/\i < 2 ^ 64)\/(-(2 ^ 64) < j/\j < 2 ^ 64)
theorem Nf.ok (h:Nf i j):IntMulOk i j:=by
 rcases h with ⟨d,e⟩ | ⟨d,e⟩;·exact .of_left (intBits_le_64 d e)
 ·exact .of_right (intBits_le_64 d e)
theorem aU:dU X (zAV .Add) (oM λi j=>.int (i+j)):=Jy λ_ _ _ _ _ _ _ q=>add_int q
theorem cX:dU X (zAV .Sub) (oM λi j=>.int (i - j)):=Jy λ_ _ _ _ _ _ _ q=>sub_int q
theorem lT:dU X (zAV .Mult) (rI Nf λi j=>.int (i * j)):=O_ λ_ _ _ _ _ _ _ d q=>mul_int q d.ok
theorem pA:dU X (zAV .FloorDiv) (rI YO λi j=>.int (i / j)):=O_ λi j _ _ _ _ _ e q=>by have f:=e.1;have g:=e.2;exact floordiv_int (by lia) (by rw[Int.fdiv_eq_ediv_of_nonneg i (zC3 f)]; symm) (.inl (PyProof.noPylong_small (by lia)))
theorem eK:dU X (zAV .Mod) (rI (λ_ j=>0 < j) λi j=>.int (i % j)):=O_ λi j _ _ _ _ _ d q=>by exact mod_int' (by lia) (by rw[Int.fmod_eq_emod_of_nonneg i (by lia)]; symm)
theorem S_:dU X (zAV .LShift) (rI YQ λi j=>.int (i * 2 ^ j.toNat)):=O_ λ_ _ _ _ _ _ _ d q=>lshift_int_small d.1 d.2.1 d.2.2 q
theorem vC:dU X (zAV .BitAnd) (oM λi j=>.int (Builtin.bitAnd i j)):=Jy λ_ _ _ _ _ _ _ q=>and_int q
theorem Jz:dU X (zAV .BitOr) (oM λi j=>.int (Builtin.bitOr i j)):=Jy λ_ _ _ _ _ _ _ q=>or_int q
theorem ZL {f:Value->Sem Value}{g:Int->Int}(rule:∀(i:Int) (t:Tok) (s:VV) (Q:zzE) (E:zzE),Q (.int (g i) s.toks) { s with toks:=s.toks+1 }->zAC (zAD X.prog X.w) X.A (f (.int i t)) Q E s) : S9 X f (rU λi=>.int (g i)):=by intro d s σ H x v Q I e h;obtain⟨i,rfl,q⟩:=h;obtain⟨t,rfl⟩:=e;exact rule i t s _ _ ⟨.int _,H,I.tok _,⟨_,rfl⟩,q⟩
theorem cY:S9 X (unaryOp .USub) (rU λi=>.int (-i)):=ZL λ_ _ _ _ _ q=>neg_int q
noncomputable def D_:V->V->Bool| .bq,.bq=>true | .bq,.int _=>true | .int _,.bq=>true | .bq,.bl _=>true | .bl _,.bq=>true | .bq,.str _=>true | .str _,.bq=>true| .int _,.int _=>true | .bl _,.bl _=>true | .str _,.str _=>true | .nM _,.nM _=>true| .int _,.str _=>true | .str _,.int _=>true | .bl _,.str _=>true | .str _,.bl _=>true| _,_=>false
noncomputable def Ea:R2:=λx y H Q=>D_ x y=true/\Q (.bl (decide (x=y))) H
noncomputable def Tc:R2:=λx y H Q=>D_ x y=true/\Q (.bl (!decide (x=y))) H
theorem HY:decide (V.int i=V.int j)=(i == j):=by grind
theorem KU:decide (V.bl i=V.bl j)=(i == j):=by grind
theorem HZ:decide (V.str i=V.str j)=(i == j):=by grind
theorem H_:decide (V.nM i=V.nM j)=(i.toList == j.toList):=by rw[zC6];simp
theorem bJ {d:zzC}{σ:St}{H:Hp}{s:VV}{Q:VK}{k f:Bool}(I:Inv X d σ H s)(q:Q (.bl k) H)(e:k=f):EP X d σ Q (.bool f) s:=by subst e;exact⟨.bl k,H,I,rfl,q⟩
theorem dQ:dU X (zAK .Eq) Ea:=by intro k s σ H x y v u Q I g e h;obtain⟨l,q⟩:=h;cases x with
 | bq=> cases g;cases y with| bq=>cases e; exact PySem.EqNone.eq_none_none (bJ I q ‹_›)| bl j=>cases e; exact PySem.EqNone.eq_none_bool (bJ I q (by rfl))| int j=>obtain⟨f,rfl⟩:=e; exact PySem.EqNone.eq_none_int (bJ I q (by rfl))| str j=>obtain⟨f,rfl⟩:=e; exact PySem.EqNone.eq_none_str (bJ I q (by rfl))| _=>exact absurd ‹_› zBb
 | bl i=> cases g;cases y with| bq=>cases e; exact PySem.EqNone.eq_bool_none (bJ I q (by rfl))| bl j=>cases e; exact eq_bool (bJ I q KU)| str j=>obtain⟨f,rfl⟩:=e; exact PySem.EqMixed.eq_bool_str (bJ I q (by rfl))| _=>exact absurd ‹_› zBb
 | int i=> obtain⟨t,rfl⟩:=g;cases y with| bq=>cases e; exact PySem.EqNone.eq_int_none (bJ I q (by rfl))| int j=>obtain⟨f,rfl⟩:=e; exact eq_int (bJ I q HY)| str j=>obtain⟨f,rfl⟩:=e; exact PySem.EqMixed.eq_int_str (bJ I q (by rfl))| _=>exact absurd ‹_› zBb
 | str i=> obtain⟨t,rfl⟩:=g;cases y with| bq=>cases e; exact PySem.EqNone.eq_str_none (bJ I q (by rfl))| bl j=>cases e; exact PySem.EqMixed.eq_str_bool (bJ I q (by rfl))| int j=>obtain⟨f,rfl⟩:=e; exact PySem.EqMixed.eq_str_int (bJ I q (by rfl))| str j=>obtain⟨f,rfl⟩:=e; exact eq_str (bJ I q HZ)| _=>exact absurd ‹_› zBb
 | nM i=> obtain⟨t,rfl⟩:=g;cases y with| nM j=>obtain⟨f,rfl⟩:=e; exact PySem.W.eq_bytes (bJ I q H_)| _=>exact absurd ‹_› zBb
 | _=>cases y <;> exact absurd ‹_› zBb
theorem zC:dU X (zAK .NotEq) Tc:=by intro k s σ H x y v u Q I g e h;obtain⟨l,q⟩:=h;cases x with
 | bq=> cases g;cases y with| bq=>cases e; exact PySem.EqNone.ne_none_none (bJ I q (by rfl))| bl j=>cases e; exact PySem.EqNone.ne_none_bool (bJ I q ‹_›)| int j=>obtain⟨f,rfl⟩:=e; exact PySem.EqNone.ne_none_int (bJ I q ‹_›)| str j=>obtain⟨f,rfl⟩:=e; exact PySem.EqNone.ne_none_str (bJ I q ‹_›)| _=>exact absurd ‹_› zBb
 | bl i=> cases g;cases y with| bq=>cases e; exact PySem.EqNone.ne_bool_none (bJ I q ‹_›)| bl j=>cases e; exact ne_bool (bJ I q (zAz not KU))| str j=>obtain⟨f,rfl⟩:=e; exact PySem.EqMixed.ne_bool_str (bJ I q ‹_›)| _=>exact absurd ‹_› zBb
 | int i=> obtain⟨t,rfl⟩:=g;cases y with| bq=>cases e; exact PySem.EqNone.ne_int_none (bJ I q ‹_›)| int j=>obtain⟨f,rfl⟩:=e; exact ne_int (bJ I q (zAz not HY))| str j=>obtain⟨f,rfl⟩:=e; exact PySem.EqMixed.ne_int_str (bJ I q ‹_›)| _=>exact absurd ‹_› zBb
 | str i=> obtain⟨t,rfl⟩:=g;cases y with| bq=>cases e; exact PySem.EqNone.ne_str_none (bJ I q ‹_›)| bl j=>cases e; exact PySem.EqMixed.ne_str_bool (bJ I q ‹_›)| int j=>obtain⟨f,rfl⟩:=e; exact PySem.EqMixed.ne_str_int (bJ I q ‹_›)| str j=>obtain⟨f,rfl⟩:=e; exact ne_str (bJ I q (zAz not HZ))| _=>exact absurd ‹_› zBb
 | nM i=> obtain⟨t,rfl⟩:=g;cases y with| nM j=>obtain⟨f,rfl⟩:=e; exact PySem.W.ne_bytes (bJ I q (zAz not H_))| _=>exact absurd ‹_› zBb
 | _=>cases y <;> exact absurd ‹_› zBb
theorem Dp:dU X (zAK .Lt) (oM λi j=>.bl (decide (i < j))):=Nd λ_ _ _ _ _ _ _ q=>lt_int q
theorem xA:dU X (zAK .LtE) (oM λi j=>.bl (decide (i<=j))):=Nd λ_ _ _ _ _ _ _ q=>le_int q
theorem WG:dU X (zAK .Gt) (oM λi j=>.bl (decide (j < i))):=Nd λ_ _ _ _ _ _ _ q=>gt_int q
theorem BZ:dU X (zAK .In) (λx y H Q=>∃i j,x=.str i/\y=.str j/\Q (.bl (!(Builtin.Str.occurrences j i 0 j.length 1).isEmpty)) H):=by intro d s σ H x y v u Q I f e h;obtain⟨i,j,rfl,rfl,q⟩:=h;obtain⟨t,rfl⟩:=f;obtain⟨g,rfl⟩:=e;exact in_str (bJ I q rfl)
theorem iV (b:zAR)(h:op≠.In:=by decide)(f:op≠.NotIn:=by decide):zBF op b=false:=by
 have d:(op == CmpOp.In)=false:=by ext
 have e:(op == CmpOp.NotIn)=false:=by ext
 cases b <;> simp [zBF,d,e]
theorem lE (g:dU X (zAK op) r)(i:PE X a ta)(m:PE X b tb)(n:zBF op b=false):PE X (.Compare a [op] [b] pos) (cT r ta tb):=by intro d s σ H Q I h;exact wpAny_Compare1 (Nc i m I h λv u f x y l k j e q=>g d f σ l x y v u Q k j e q) n
noncomputable def qG (t:TE):TT:=fun σ H Q=>t σ H λx d=>∃k,x=.bl k/\Q k d
theorem a_ (j:dU X (zAK op) r)(o:PE X a ta)(t:PE X b tb)(w:zBF op b=false):PT X (.Compare a [op] [b] pos) (qG (cT r ta tb)):=by intro d s σ H Q I h;refine wpAny_isTrue_Compare1 (aQ (o d s σ H _ I h) λv E ⟨x,l,q,A,m⟩=>aQ (t d E σ l _ q m) λu D ⟨y,F,i,g,p⟩=> aQ (j d D σ F x y v u _ i A g p) λc G ⟨z,n,B,f,k,e,C⟩=>?_) w;subst e;cases f;exact zBo ⟨n,B,C⟩
noncomputable def Eb (r f:R2)(ta tb tc:TE):TE:=fun σ H Q=>ta σ H λx g=>tb σ g λy i=>r x y i λz d=>∃k,z=.bl k/\(if k=true then tc σ d λe h=>f y e h Q else Q (.bl false) d)
theorem Ec (R:dU X (zAK op) r)(i:dU X (zAK g) n)(A:PE X a ta)(D:PE X b tb)(w:PE X c tc)(E:lastMarks [op,g] [b,c]=false:=by with_unfolding_all rfl):PE X (.Compare a [op,g] [b,c] pos) (Eb r n ta tb tc):=by intro f s σ H Q I h;refine Compare_chain (aQ (A f s σ H _ I h) λv q ⟨x,S,N,L,T⟩=>chain_link (aQ (D f q σ S _ N T) λu P ⟨y,V,F,l,B⟩=> aQ (R f P σ V x y v u _ F L l B) λd C ⟨z,o,j,p,k,e,m⟩=>?_)) E;subst e;cases p;refine zBo ?_;cases k with| false=>exact ite_ff ⟨.bl false,o,j,rfl,m⟩| true=>exact ite_tt (chain_last (aQ (w f C σ o _ j m) λO t ⟨U,K,G,M,J⟩=>i f t σ K y U u O Q G l M J))
theorem Ed (Z:dU X (zAK op) r)(i:dU X (zAK g) n)(F:PE X a ta)(K:PE X b tb)(D:PE X c tc)(M:lastMarks [op,g] [b,c]=false:=by with_unfolding_all rfl):PT X (.Compare a [op,g] [b,c] pos) (qG (Eb r n ta tb tc)):=by intro f s σ H Q I h;refine isTrue_chain (aQ (F f s σ H _ I h) λv B ⟨x,q,Y,V,A⟩=>test_link (aQ (K f B σ q _ Y A) λu S ⟨y,H2,P,l,G⟩=> aQ (Z f S σ H2 x y v u _ P V l G) λd J ⟨z,o,j,p,k,e,m⟩=>?_)) M;subst e;cases p;refine zBo ?_;cases k with| false=> obtain⟨k',e',R⟩:=m;cases e';exact ite_ff ⟨o,j,R⟩| true=> refine ite_tt (test_last (aQ (D f J σ o _ j m) λN C ⟨z',U,t,W,T⟩=>aQ (i f C σ U y z' u N _ t l W T) λd' s5 O=>?_));obtain⟨z2,L,E,r5,k2,w,q5⟩:=O;subst w;cases r5;exact zBo ⟨L,E,q5⟩
noncomputable def AY (K:zzA)(x:V)(H:Hp)(k:Bool):Prop:= match x with| .bq=>k=false| .bl b=>k=b| .int i=>k=(i != 0)| .str y=>y.length<=PK/\k=((y.length:Int) != 0)| .nM y=>y.size<=PK/\k=((y.size:Int) != 0)| .ref p=>(∃e,ay K H p e/\k=!e.isEmpty)\/(∃e,aG K H p e/\k=!e.isEmpty)\/∃d,H p=some (.dK d)/\k=!d.isEmpty| _=>False
theorem JA (r:KV kvs vs):(!vs.isEmpty)=!kvs.isEmpty:=by cases r <;> rfl
theorem zD (r:Vals xs its):(!its.toArray.isEmpty)=!xs.isEmpty:=by cases r <;> rfl
theorem Ef:(PK:Nat) < 2 ^ 63:=by decide
theorem KW:YN X (λx H Q=>∃k,AY X.K x H k/\Q k H):=by intro z s σ H x v Q I j h;obtain⟨k,e,q⟩:=h;have E:=u4;cases x with| bq=> cases j;have d:=e;subst d;exact truthy_none ⟨H,I,q⟩| bl b=> cases j;have d:=e;subst d;exact zBo ⟨H,I,q⟩| int i=> obtain⟨t,rfl⟩:=j;have d:=e;subst d;exact PySem.P.truthy_int ⟨H,I,q⟩| str y=> obtain⟨t,rfl⟩:=j;obtain⟨D,d⟩:y.length<=PK/\k=((y.length:Int) != 0):=e;subst d;exact PySem.P.truthy_str (by lia) ⟨H,I.tok _,q⟩| nM y=> obtain⟨t,rfl⟩:=j;obtain⟨D,d⟩:y.size<=PK/\k=((y.size:Int) != 0):=e;subst d;exact PySem.W.truthy_bytes (by lia) ⟨H,I.tok _,q⟩| ref p=>
  cases j;have d:=e;rcases d with ⟨C,n,d⟩ | ⟨C,n,d⟩ | ⟨l,n,d⟩
  ·subst d;obtain⟨u,r,o,A⟩:=I.list n;have g:=r.length;exact wpAny_truthy_list o.isList (by grind) ⟨H,I.tok _,by rw[zD r]; symm⟩
  ·subst d;obtain⟨u,r,o,A⟩:=I.tuple n;have g:=r.length;exact truthy_tuple o (by grind) ⟨H,I.tok _,by rw[zD r]; symm⟩
  ·subst d;obtain⟨A,B,w,r,m⟩:l.length<=PK/\(p == zAO)=false/\∃w,KV l w/\s.heap.DictOf _ p w:=I.hok p _ n;have g:=Paired.length r;exact wpAny_truthy_dict B m (by lia) ⟨H,I.tok _,by rw[JA r]; symm⟩| _=>exact (show False from e).elim
theorem Ng (n:PE X a ta)(m:∀d,zDf a X.env d=(do let v <-d; zCX a.pos; zBV [v] (truthy v))) : PT X a (fun σ H Q=>ta σ H λx H'=>∃k,AY X.K x H' k/\Q k H'):=by intro e s σ H Q I h;exact isTrue_plain (aQ (n e s σ H _ I h) λv j ⟨x,i,g,f,l⟩=>KW e j σ i x v Q g f l) (m _)
theorem vals1 (r:Vals [x] us):∃u,us=[u]/\RelV x u:=by cases r with| cons e d=>cases d; ext
theorem vals2 (r:Vals [x,y] us):∃u d,us=[u,d]/\RelV x u/\RelV y d:=by cases r with| cons g e=> cases e with| cons h f=>cases f; exact⟨_,_,rfl,g,h⟩
theorem KY (f:X.calm=true):b_ X (.builtin "max") (λxs H Q=>∃i j,xs=[.int i,.int j]/\Q (.int (if j > i then j else i)) H):=by
 intro e s σ H xs n Q I r h;obtain⟨i,j,rfl,q⟩:=h;obtain⟨u,l,rfl,⟨t,rfl⟩,⟨m,rfl⟩⟩:=vals2 r;refine max_two_ints (I.ok.hd f) λo g k=>⟨_,H,I.kept k,?_,q⟩;by_cases d:j > i;·rw[v6 d,v6 d]; exact⟨_,rfl⟩
 ·rw[xI d,xI d]; exact⟨_,rfl⟩
theorem KZ (f:X.calm=true):b_ X (.builtin "min") (λxs H Q=>∃i j,xs=[.int i,.int j]/\Q (.int (if j < i then j else i)) H):=by
 intro e s σ H xs n Q I r h;obtain⟨i,j,rfl,q⟩:=h;obtain⟨u,l,rfl,⟨t,rfl⟩,⟨m,rfl⟩⟩:=vals2 r;refine min_two_ints (I.ok.hd f) λo g k=>⟨_,H,I.kept k,?_,q⟩;by_cases d:j < i;·rw[v6 d,v6 d]; exact⟨_,rfl⟩
 ·rw[xI d,xI d]; exact⟨_,rfl⟩
noncomputable def rC (K:zzA)(x:V)(H:Hp)(n:Nat):Prop:= match x with| .str y=>y.length<=PK/\n=y.length| .nM y=>y.size<=PK/\n=y.size| .ref p=>(∃d,ay K H p d/\n=d.length)\/∃d,aG K H p d/\n=d.length| _=>False
theorem Nh:b_ X (.builtin "len") (λxs H Q=>∃x n,xs=[x]/\rC X.K x H n/\Q (.int n) H):=by
 intro v s σ H xs B Q I r h;obtain⟨x,n,rfl,e,q⟩:=h;obtain⟨u,rfl,j⟩:=vals1 r;have A:=u4;cases x with| str y=> obtain⟨t,rfl⟩:=j;obtain⟨w,f⟩:y.length<=PK/\n=y.length:=e;subst f;exact len_str (by lia) ⟨.int _,H,I.tok _,⟨_,rfl⟩,q⟩| nM y=> obtain⟨t,rfl⟩:=j;obtain⟨w,f⟩:y.size<=PK/\n=y.size:=e;subst f;exact PySem.W.len_bytes (by lia) ⟨.int _,H,I.tok _,⟨_,rfl⟩,q⟩| ref p=>
  cases j;have f:=e;rcases f with ⟨xs,k,f⟩ | ⟨xs,k,f⟩
  ·subst f;obtain⟨g,l,o,z⟩:=I.list k;have d:=l.length;exact Calls.call_len_list o.isList (by grind) ⟨.int xs.length,H,I.tok _,⟨_,by simp only [zBf]; rw[d]⟩,q⟩
  ·subst f;obtain⟨g,l,o,z⟩:=I.tuple k;have d:=l.length;exact len_tuple o (by grind) ⟨.int xs.length,H,I.tok _,⟨_,by simp only [zBf]; rw[d]⟩,q⟩| _=>exact (show False from e).elim
end
structure yF (h:Heap)(x dx C:M1)(mA:Str->Option Value):Prop where
 obj:h.get? x=some (PySem.W.instObj C dx)
 ns:h.Ns1 dx mA
 ne:dx≠x
theorem K0 {h:Heap}(n:h.Ns1 d f):∃od,h.get? d=some od/\∀name,PySem.W.lookIn name od=some (f name):=by
 obtain⟨o,j,p,i,l,k,_,g⟩:=n;refine⟨o,i,λname=>?_⟩;have e:=g name;unfold nsFind findBy at e;rw[<-Array.find?_toList] at e;unfold PySem.W.lookIn;rw[l];dsimp only;split;·ext
 ·have a:j.toList.any (·.refKey)=false:=by rw[List.any_eq_false];intro y m;obtain⟨z,t,c⟩:=k y (by ext);simp [DictEntry.refKey,c]
  grind
theorem yF.look (I:yF h x c C b):∃od,PySem.W.InstAt h x (PySem.W.instObj C c) C (some od)/\∀name,PySem.W.lookIn name od=some (b name):= let ⟨od,d,e⟩:=K0 I.ns;⟨od,⟨I.obj,rfl,rfl,d⟩,e⟩
section
variable {prog:zAA}{w:zAE}{A:zAI}{E:zzE}{s:VV}{K:zzA}{x dx C f:M1}{mA:Str->Option Value}{name:Str}{v:Value}
theorem get_map {a:Bool}{Q:zzE}(X:K.In s.heap)(I:yF s.heap x dx C mA)(d:PySem.W.plainGet K C name=true)(e:PySem.W.hasDictIn K C=true)(c:PySem.W.findIn K (.ref C) name=some none) (g:mA name=some v) (b:PySem.W.handedIn v=true) (h:Q v { s with toks:=s.toks+1 }) : zAC (zAD prog w) A (getAttr (.ref x) name a) Q E s:=by obtain⟨i,J,j⟩:=I.look;exact PySem.W.get_value X J (PySem.W.plainGet_of d).1 (PySem.W.findObj_own e c rfl (by ext)) b h
theorem Ni {e:Sem Bool}{Q:Value × List Value->VV->Prop}(X:K.In s.heap)(I:yF s.heap x dx C mA)(a:PySem.W.plainGet K C name=true)(d:PySem.W.findIn K (.ref C) name=some (some (.ref f))) (c:PySem.W.isFn K (.ref f)=true) (g:mA name=none) (h:Q (.ref f,[.ref x]) s) : zAC (zAD prog w) A (zCE (.ref x) name e) Q E s:=by obtain⟨b,J,i⟩:=I.look;exact PySem.W.method_fn X J (PySem.W.plainGet_of a).1 (PySem.W.plainGet_of a).2 d (beq_iff_eq.mp c) (by show (PySem.W.lookIn name b).map _=some false; ext) h
theorem QZ {ns:List Str}{Q:Unit->VV->Prop}(X:K.In s.heap)(I:yF s.heap x dx C mA)(k:PySem.W.findIn K (.ref C) "__setattr__"=some (some (.builtin "object.__setattr__"))) (t:PySem.W.plainOver K C=true) (r:PySem.W.takerIn K C name=some none) (p:PySem.W.hasDictIn K C=true)(m:PySem.Within mA ns) (n:ns.length<=PK)(h:∀h',yF h' x dx C (λy=>if y=name then some v else mA y)->Heap.SameBut dx s.heap h'->Q () { s with heap:=h',toks:=s.toks+2 }) : zAC (zAD prog w) A (setAttr (.ref x) name v) Q E s:=by obtain⟨z,J,D⟩:=I.look;refine PySem.W.set_plain X J k (PySem.W.osa_open X J t r λb=>?_);obtain⟨B,l,g⟩:=PySem.W.any_some p;have q:=I.obj;refine yA (y4 (yA (yA (wpAny_loadPart q (yA (PySem.W.Looks.here (PySem.W.looks_clsIn X l) ?_))))));rw[g];refine y4 (yA (y4 (yA ?_)));refine wpAny_nsSet1 I.ns λh' c a=>?_;obtain⟨u,o,j,e,i,d⟩:=c.count (PySem.Within.cons name v m);refine yA (wpAny_lookBehind e (by rw[i]; exact pastItsLine_dict (zAv d (by ext))) ?_);exact y4 (h _ ⟨(a.2 _ (Ne.symm I.ne)).trans I.obj,c,I.ne⟩ a)
theorem Nj (X:K.In s.heap)(d:PySem.W.makesIn K C=true)(c:PySem.W.findIn K (.ref C) "__init__"=some (some (.ref f))) (e:PySem.W.typeIn K (.ref f)=some (.type "function"))(h:zBK (zAD prog w) (A.under (.builtin "type.__call__" ⟨.ref C::vs,b⟩)) (.call (.ref f) ⟨.ref (s.heap.objs.size+1)::vs,b⟩) (PySem.W.InitBack (s.heap.objs.size+1) R) { s with heap:=(s.heap.push PySem.W.emptyDict).push (PySem.W.instObj C s.heap.objs.size) }) : zBK (zAD prog w) A (.call (.ref C) ⟨vs,b⟩) R s:=by exact PySem.W.make_core (PySem.W.makes_of X d) (PySem.W.looks_findIn X c) (λa=>PySem.W.bind_fn X a e) (.inl rfl) h
end
noncomputable def eZ (f:Str)(v:V):List (Str × V)->List (Str × V)| []=>[(f,v)]| (g,x)::r=>if g=f then (g,v)::r else (g,x)::eZ f v r
theorem x9 (f g:Str)(v:V):∀a:List (Str × V),(eZ f v a).lookup g=if g=f then some v else a.lookup g| []=>by show List.lookup g [(f,v)]=_;grind| (k,x)::r=>by have b:=x9 f g v r;rw[show eZ f v _=(if k=f then (k,v)::r else (k,x)::eZ f v r) from rfl];grind
theorem vD (f:Str)(v:V):∀a:List (Str × V),f∈(eZ f v a).map (·.1)/\∀g,g∈a.map (·.1)->g∈(eZ f v a).map (·.1)| []=>⟨by simp [eZ],λg h=>by ext⟩| (k,x)::r=>by obtain⟨c,b⟩:=vD f v r;rw[show eZ f v _=(if k=f then (k,v)::r else (k,x)::eZ f v r) from rfl];grind
theorem x_ (f:Str)(v:V):∀a:List (Str × V),(eZ f v a).length<=a.length+1| []=>by simp [eZ]| (k,x)::r=>by have b:=x_ f v r;rw[show eZ f v _=(if k=f then (k,v)::r else (k,x)::eZ f v r) from rfl];grind
theorem f9.some_of (r:f9 (some v) o):∃u,o=some u/\RelV v u:=by cases o with| none=>exact (show False from r).elim| some u=>exact⟨u,rfl,r⟩
theorem f9.none_of (r:f9 none o):o=none:=by cases o with| none=>rfl| some u=>exact (show False from r).elim
theorem K1 (r:RelV v u):PySem.W.handedIn u=true:=by cases v with| bq=>cases (show u=Value.none from r); rfl| bl b=>cases (show u=Value.bool b from r); rfl| int i=>obtain⟨t,e⟩:=(show ∃t,u=Value.int i t from r); cases e; rfl| str x=>obtain⟨t,e⟩:=(show ∃t,u=Value.str x t from r); cases e; rfl| nM b=>obtain⟨t,e⟩:=(show ∃t,u=Value.bytes b t from r); cases e; rfl| KL b=>obtain⟨t,e⟩:=(show ∃t,u=Value.float b t from r); cases e; rfl| ref a=>cases (show u=Value.ref a from r); rfl| ty n=>cases (show u=type n from r); rfl
section
variable {P:zAA}{w:zAE}{H H':Hp}{h h':Heap}{a C dx:M1}{fs fs':List (Str × V)}
theorem AZ (c:fW P w H h)(e:H a=some (.ins C dx fs)):∃b,yF h a dx C b/\(∀f,f9 (fs.lookup f) (b f))/\PySem.Within b (fs.map (·.1))/\fs.length<=1000/\H dx=some (.own a):=by obtain⟨d,z,j,i,b,n,r,q⟩:=(show bI P w H h a _ from c a _ e);exact⟨b,⟨i,n,j⟩,r,q,z,d⟩
end
structure gK (K:zzA)(C:M1):Prop where
 pg:PySem.W.plainGet K C Str.empty=true
 hd:PySem.W.hasDictIn K C=true
 po:PySem.W.plainOver K C=true
 sa:PySem.W.findIn K (.ref C) "__setattr__"=some (some (.builtin "object.__setattr__"))
theorem gK.get {K:zzA}(c:gK K C)(f:Str):PySem.W.plainGet K C f=true:=c.pg
noncomputable def aV (K:zzA)(C:M1)(f:Str):Prop:=PySem.W.findIn K (.ref C) f=some none
theorem aV.WH {K:zzA}(n:aV K C f):PySem.W.takerIn K C f=some none:=by unfold PySem.W.takerIn;rw[show PySem.W.findIn K _ f=some none from n];rfl
structure Meth (K:zzA)(C:M1)(m:Str)(f:M1):Prop where
 at_:PySem.W.findIn K (.ref C) m=some (some (.ref f))
 fn:PySem.W.isFn K (.ref f)=true
 kp:PySem.W.keepIn K (.ref f)=true
section
variable {X:Cx}{pins:zzC}{σ:St}{H:Hp}{s:VV}{a C dx:M1}{fs:List (Str × V)}{f:Str}{v:V}{A:zAI}{E:zzE}
theorem JB (I:Inv X pins σ H s)(e:H a=some (.ins C dx fs))(c:gK X.K C)(n:aV X.K C f)(l:fs.lookup f=some v)(h:∀u s',Inv X pins σ H s'->RelV v u->Q u s'):zAC (zAD X.prog X.w) A (getAttr (.ref a) f b) Q E s:=by obtain⟨i,O,r,_,_,_⟩:=AZ I.hok e;obtain⟨u,g,d⟩:=f9.some_of (by rw[<-l]; exact r f);exact get_map I.pL O (c.get f) c.hd n g (K1 d) (h u _ (I.tok _) d)
theorem uc {m:Str}{g:M1}{b:Sem Bool}{Q:Value × List Value->VV->Prop}(I:Inv X pins σ H s)(e:H a=some (.ins C dx fs))(c:gK X.K C)(k:Meth X.K C m g)(l:fs.lookup m=none)(h:Q (.ref g,[.ref a]) s):zAC (zAD X.prog X.w) A (zCE (.ref a) m b) Q E s:=by obtain⟨i,O,r,_,_,_⟩:=AZ I.hok e;have d:=f9.none_of (by rw[<-l]; exact r m);exact Ni I.pL O (c.get m) k.at_ k.fn d h
theorem JC {y:V}{u:Value}{Q:Unit->VV->Prop}(I:Inv X pins σ H s)(e:H a=some (.ins C dx fs))(c:gK X.K C)(n:aV X.K C f)(F:fs.length < 1000)(B:RelV y u)(h:∀s',Inv X pins σ (upd H a (.ins C dx (eZ f y fs))) s'->Q () s'):zAC (zAD X.prog X.w) A (setAttr (.ref a) f u) Q E s:=by
 obtain⟨D,O,r,i,_,t⟩:=AZ I.hok e;have m:(fs.map (·.1)).length<=PK:=by rw[yB,u4]; lia
 refine QZ I.pL O c.sa c.po n.WH c.hd i m λp d j=>h _ ?_;have k:∃o,p.get? dx=some o:=let ⟨o,_,_,x,_⟩:=d.ns; ⟨o,x⟩;refine I.write (by rw[e]; exact True.intro) (.inr t) (λb q l z=>(j.2 b l).trans z) k ?_;refine⟨by rw[aD O.ne]; symm,?_,O.ne,d.obj,_,d.ns,λg=>?_,λg w=>?_⟩;·have:=x_ f y fs; lia
 ·rw[x9];by_cases q:g=f;·rw[v6 q,v6 q]; symm
  ·rw[xI q,xI q]; exact r g
 ·by_cases q:g=f;·rw[q]; exact (vD f y fs).1
  ·refine (vD f y fs).2 g (i g λz=>w ?_);ext
theorem Inv.made (I:Inv X pins σ H s):Inv X pins σ (upd (upd H s.heap.objs.size (.own (s.heap.objs.size+1))) (s.heap.objs.size+1) (.ins C s.heap.objs.size [])) { s with heap:=(s.heap.push PySem.W.emptyDict).push (PySem.W.instObj C s.heap.objs.size) }:=by
 have d:(s.heap.push PySem.W.emptyDict).get? s.heap.objs.size=some PySem.W.emptyDict:=u3 s.heap rfl;have j:((s.heap.push PySem.W.emptyDict).push (PySem.W.instObj C s.heap.objs.size)).get? (s.heap.objs.size+1)=some (PySem.W.instObj C s.heap.objs.size):=by have:=u3 (s.heap.push PySem.W.emptyDict) (o:=PySem.W.instObj C s.heap.objs.size) rfl;ext
 have k:(s.heap.push PySem.W.emptyDict).Ns s.heap.objs.size _:=⟨PySem.W.emptyDict,#[],_,d,rfl,(λe l=>absurd l (by simp)),λ_=>rfl⟩;have h:=I.laid (o:=.own (s.heap.objs.size+1)) (t':=s.toks) (λb u q=>y1 _ q) (y6 _) ⟨_,d⟩;refine h.laid (λb u q=>y1 _ q) (by simp) ?_;have g:s.heap.objs.size≠s.heap.objs.size+1:=wE (Nat.lt_succ_self _);refine⟨by rw[aD g,aq],zAb _,g,j,λ_=>none,(Heap.Ns1.of_empty k).at λo q=>y1 _ q,λ_=>True.intro,λy i=>absurd rfl i⟩
theorem Q0 (c:zBA e f env (zAM e env)=zAM e env)(h:zAC (zAD prog w) A (zAM e env) (λo d=>zAC (zAD prog w) A (getAttr o f true) Q E d) E s):zAC (zAD prog w) A (zAM (.Attribute e f b) env) Q E s:= Attribute_any_ h (by rw[arm_eval_Attribute,c])
end
noncomputable def kh (K:zzA)(g:TE)(f:Str):TE:=fun σ H Q=>g σ H λx c=>∃a C e d v,x=.ref a/\c a=some (.ins C e d)/\gK K C/\aV K C f/\d.lookup f=some v/\Q v c
noncomputable def vE (K:zzA)(h g:TE)(f:Str):TS:=λD σ H=>g σ H λy i=>h σ i λx e=>∃a C d b,x=.ref a/\e a=some (.ins C d b)/\gK K C/\aV K C f/\b.length < 1000/\ D.nx σ (upd e a (.ins C d (eZ f y b)))
section
variable {X:Cx}{o e value:zAR}{f:Str}{pos pos' tpos:Pos}{ta tv:TE}
theorem Td (t:PE X e ta)(d:zBA e f X.env (zAM e X.env)=zAM e X.env):PE X (.Attribute e f pos) (kh X.K ta f):=by intro b s σ H Q I h;refine Q0 d (aQ (t b s σ H _ I h) λu z g=>?_);obtain⟨x,j,i,r,a,C,A,y,v,k,w,c,n,l,q⟩:=g;subst k;obtain rfl:u=Value.ref a:=r;exact JB i w c n l λD B m p=>⟨v,j,m,p,q⟩
theorem Te (m:PE X o ta)(i:PE X value tv)(k:zBR value (some (.Attribute o f pos')) pos.line X.env=pure false):PS X (.Assign [.Attribute o f pos'] value pos) (vE X.K ta tv f):=by intro b s σ H D I h;refine plainObj_wpAny_Assign_Attribute (aQ (i b s σ H _ I h) λu E ⟨y,j,A,d,q⟩=>aQ (m b E σ j _ A q) λv K w=>?_) k;obtain⟨x,G,g,p,a,C,L,J,z,r,c,n,l,t⟩:=w;subst z;obtain rfl:v=Value.ref a:=p;exact JC g r c n l d λF B=>⟨σ,_,B,t⟩
theorem Ww (G:PE X e v)(I:Inv X i σ H s)(h:v σ H λx r=>∃a C z t g,x=.ref a/\r a=some (.ins C z t)/\gK X.K C/\Meth X.K C m g/\t.lookup m=none/\ ∀n,Inv X i σ r n->zAC (zAD X.prog X.w) X.A (zDG pos (.ref g) [.ref a] (zAW pos (zAG b X.env)) (zBY pos (zAY [] X.env))) Q X.xe n)(D:zAM (.Call (.Attribute e m d) b [] pos) X.env=(do let w <-zAM e X.env;zCX d.atName;let (f,j) <-zBV [w] (zCE w m F);zDG pos f j (zAW pos (zAG b X.env)) (zBY pos (zAY [] X.env)))) : zAC (zAD X.prog X.w) X.A (zAM (.Call (.Attribute e m d) b [] pos) X.env) Q X.xe s:=by refine PySem.W.methodCall_KW (aQ (G i s σ H _ I h) λu n E=>?_) D;obtain⟨x,r,y,A,a,C,z,t,g,J,B,c,k,l,q⟩:=E;subst J;obtain rfl:u=Value.ref a:=A;exact uc y B c k l (q n y)
end
section
variable {X:Cx}{pins:zzC}{σ:St}{H:Hp}{s:VV}{A:zAI}{E:zzE}{Q:zzE}{c:Value}{b:Bool}
end
structure cN (k:Nat)(A:zAI):Prop where
 hd:A.handled=none
 dp:A.depth+3 * k+5 < recursionLimit
 un:A.units+16 * k+200 < zAN
theorem cN.mono (r:cN k A)(h:j<=k):cN j A:=⟨r.hd,by have:=r.dp; lia,by have:=r.un; lia⟩
theorem cN.deeper (r:cN (k+1) A)(env:Env):cN k (A.deeper env):=⟨r.hd,by have:=r.dp; show A.depth+1+3 * k+5 < _; lia,by have:=r.un; show A.units+3+16 * k+200 < _; lia⟩
theorem JD {A:zAI}:(A.under (.builtin "type.__call__" ⟨.ref C::us,a⟩)).depth=A.depth+1:=by rfl
theorem JE {A:zAI}:(A.under (.builtin "type.__call__" ⟨.ref C::us,a⟩)).units=A.units+1:=by rfl
theorem cN.make (r:cN (k+1) A)(C:M1)(us:List Value)(a:List (Str × Value)):cN k (A.under (.builtin "type.__call__" ⟨.ref C::us,a⟩)):=⟨r.hd,by have:=r.dp; rw[JD]; lia,by have:=r.un; rw[JE]; lia⟩
theorem cN.depth (r:cN k A):A.depth < recursionLimit:=by have:=r.dp; lia
theorem cN.units (r:cN k A):A.units+64 < zAN:=by have:=r.un; lia
noncomputable def dR:TA:=λ_ H Q=>Q [] H
noncomputable def cA (a:TE)(e:TA):TA:=fun σ H Q=>a σ H λx c=>e σ c λd b=>Q (x::d) b
section
variable {X:Cx}{e:zAR}{es:List zAR}{te:TE}{t:TA}{pos:Pos}
theorem ai:PA X [] dR:=λ_ _ _ _ H Q I h=>Calls.spliced_nil ⟨[],H,I,.nil,h⟩
theorem af (p:PE X e te)(n:PA X es t)(k:zAG (e::es) X.env=(false,zAM e X.env)::zAG es X.env:=by rfl):PA X (e::es) (cA te t):=by intro pos a s σ H Q I h;rw[k];refine zCd (aQ (p a s σ H _ I h) λu r l=>?_);obtain⟨x,m,i,g,o⟩:=l;exact aQ (n pos a r σ m _ i o) λw v ⟨j,q,f,d,c⟩=>⟨x::j,q,f,.cons g d,c⟩
noncomputable def vF (t:TA):TE:=fun σ H Q=>t σ H λa b=>a.length<=PK/\∀p,b p=none->Q (.ref p) (upd b p (.tup a))
noncomputable def A0 (t:TA):TE:=fun σ H Q=>t σ H λa b=>a.length<=PK/\∀p,b p=none->Q (.ref p) (upd b p (.lst a))
theorem bw (h:PA X es t):PE X (.Tuple es f pos) (vF t):=by intro a s σ H Q I k;refine wpAny_Tuple_spliced (aQ (h pos a s σ H _ I k) λg d ⟨l,i,c,r,z,q⟩=>⟨by rw[<-r.length]; symm,?_⟩);have j:=c.hok.fresh (y6 _);refine⟨.ref d.heap.objs.size,upd i d.heap.objs.size _,c.laid (λb u e=>y1 _ e) (y6 _) ?_,rfl,q _ j⟩;exact⟨z,g,r,⟨_,u3 _ rfl,rfl,_,rfl⟩⟩
theorem bH (h:PA X es t):PE X (.List es pos) (A0 t):=by intro a s σ H Q I f;refine wpAny_List_spliced (aQ (h pos a s σ H _ I f) λj c ⟨k,i,d,r,z,q⟩=>⟨by rw[<-r.length]; symm,?_⟩);have g:=d.hok.fresh (y6 _);refine⟨.ref c.heap.objs.size,upd i c.heap.objs.size _,d.laid (λb u e=>y1 _ e) (y6 _) ?_,rfl,q _ g⟩;exact⟨z,j,0,r,u3 _ rfl⟩
end
abbrev Sp:=List V->Hp->VK->XK->Prop
abbrev uT:=List Env->Hp->VV->XK->Value->VV->Prop
structure yG (P:zAA)(w:zAE)(K:zzA)(mg:Str->Option Value)(base:Heap)(A:zAI)(outer:List Env)(s:VV)(H:Hp):Prop where
 frames:A.frames=some outer
 mod:Mod K mg base
 bs:∀b o,base.get? b=some o->s.heap.get? b=some o/\H b=none
 zv:base.objs.size<=s.heap.objs.size
 om:s.heap.FunFrames base outer
 DX:∀b∈frs outer,H b=none
 hok:fW P w H s.heap
 bare:zCN s.gens
noncomputable def CE (a:List Env)(P:zAA)(w:zAE)(H:Hp)(s:VV)(Q:VK)(u:Value)(s':VV):Prop:= ∃v b,s'.os=s.os/\zCN s'.gens/\Un (frs a) [] H b s.heap s'.heap/\fW P w b s'.heap/\RelV v u/\Q v b
noncomputable def CR (CX:uT)(a:List Env)(P:zAA)(w:zAE)(H:Hp)(s:VV)(Q:VK)(E:XK)(r:Result)(s':VV):Prop:= match r with| .ok (.ret u)=>CE a P w H s Q u s'| .ok _=>False| .error e=>CX a H s E e s'
structure aL (P:zAA)(w:zAE)(K:zzA)(mg:Str->Option Value)(base:Heap)(CX:uT)(k:Nat)(f:M1)(fd:zAF)(ps:List Str)(sp:Sp):Prop where
 len:∀vs H Q E,sp vs H Q E->vs.length=ps.length
 run:∀(A:zAI) (outer:List Env) (s:VV) (H:Hp) (args:Args) (us:List Value) (vs:List V) (Q:VK) (E:XK),cN k A->yG P w K mg base A outer s H->zCY s fd args (ps.zip us)->Vals vs us->sp vs H Q E-> zBK (zAD P w) A (.call (.ref f) args) (CR CX outer P w H s Q E) s
theorem yG.make {K:zzA}(e:yG P w K c base A a s H)(C:M1)(us:List Value)(d:List (Str × Value)) : yG P w K c base (A.under (.builtin "type.__call__" ⟨.ref C::us,d⟩)) a s H:=⟨by first | exact e.frames,e.mod,e.bs,e.zv,e.om,e.DX,e.hok,e.bare⟩
section
variable {X:Cx}{pins:zzC}{σ:St}{H:Hp}{s s':VV}
theorem Inv.Tf (I:Inv X pins σ H s):yG X.prog X.w X.K X.mg X.base X.A X.stack s H:=⟨I.ok.frames,I.ok.mod,I.bs,zAv I.ok.zv I.sz,I.stack,I.xw,I.hok,I.bare⟩
theorem Inv.after (I:Inv X pins σ H s)(h:CE X.stack X.prog X.w H s Q u s'):EP X pins σ Q u s':=by obtain⟨v,f,os,a,e,b,r,q⟩:=h;obtain⟨i,g,d,t,c⟩:=s';obtain rfl:c=s.os:=os;exact⟨v,f,I.call e b a (by simp),r,q⟩
end
noncomputable def oW (sp:Sp)(a:List V)(E:XK)(t:TA):TE:=fun σ H Q=>t σ H λb c=>sp (b++a) c Q E
noncomputable def ud (C:M1)(m:Str)(sp:Sp)(b:List V)(E:XK)(h:TE)(t:TA):TE:=fun σ H Q=>h σ H λx d=>∃a g c,x=.ref a/\d a=some (.ins C g c)/\c.lookup m=none/\ t σ d λf e=>sp (x::(f++b)) e Q E
noncomputable def zE (C:M1)(sp:Sp)(b:List V)(E:XK)(t:TA):TE:=fun σ H Q=>t σ H λd c=>∀x a,c x=none->c a=none->a≠x-> sp (.ref x::(d++b)) (upd (upd c a (.own x)) x (.ins C a [])) (λv e=>v=.bq/\Q (.ref x) e) E
noncomputable def Binds (K:zzA)(d:zAF)(ps:List Str)(c:List Value):Prop:= ∀(s:VV) (b:List Value),K.In s.heap->(b++c).length=ps.length->zCY s d ⟨b,[]⟩ (ps.zip (b++c))
theorem Binds.all {K:zzA}(h:∀us:List Value,us.length=ps.length->zDH c ⟨us,[]⟩=pure (ps.zip us)):Binds K c ps []:=λs us _ b=>by rw[zCu] at b ⊢;exact .of_eq (h us b)
noncomputable def Passes (CX:uT)(X:Cx)(E:XK):Prop:=∀(a:zzC) (σ:St) (H:Hp) (s:VV) (e:Value) (b:VV),Inv X a σ H s->CX X.stack H s E e b->X.xe e b
section
variable {X:Cx}{CX:uT}{k:Nat}{f C:M1}{fd:zAF}{ps:List Str}{sp:Sp}{pN:List V}{ds:List Value}{E:XK}{x m:Str}{p pos apos:Pos}{e o:zAR}{es:List zAR}{ta:TE}{t:TA}
theorem Eg (F:aL X.prog X.w X.K X.mg X.base CX k f fd ps sp)(g:cN k X.A)(j:Binds X.K fd ps ds)(i:Vals pN ds)(d:Passes CX X E)(I:Inv X a σ H s) (r:Vals vs us) (h:sp (vs++pN) H Q E):zAC (zAD X.prog X.w) X.A (call (.ref f) us) (EP X a σ Q) X.xe s:=by
 have c:=r.append i;have l:(us++ds).length=ps.length:=by rw[<-c.length]; exact F.len _ _ _ _ h
 refine wpAny_call (zBW (F.run X.A X.stack s H _ _ _ Q E g I.Tf (j s us I.pL l) c h) λr q b=>?_);cases r with| error e=>exact d a σ H s e q I b| ok n=> cases n with| ret u=>exact I.after b| next=>symm| brk=>symm| cont=>symm
theorem Q2 (F:aL X.prog X.w X.K X.mg X.base CX k f fd ps sp)(z:cN k X.A)(w:Gl X x)(u:X.mg x=some (.ref f))(j:PySem.W.keepIn X.K (.ref f)=true)(i:Binds X.K fd ps ds)(l:Vals pN ds)(v:Passes CX X E)(n:PA X (e::es) t) (c:(x == ("__debug__":Str))=false:=by decide) (y:zAG (e::es) X.env=(false,zAM e X.env)::zAG es X.env:=by rfl) (d:(zAW pos (zAG es X.env)).any (·.1)=false:=by rfl) : PE X (.Call (.Name x p) (e::es) [] pos) (oW sp pN E t):=by intro b s σ H Q I h;refine zBB (sG I w u ?_ c);refine PySem.W.callWith_K I.ok.mod.HS j (aQ (n pos b s σ H _ I h) λA D ⟨G,B,g,r,q⟩=>⟨g.pL,?_⟩) y d;exact Eg F z i l v g r q
theorem Q3 {N:Sem Bool}(S:PE X o ta)(c:gK X.K C)(n:Meth X.K C m f)(F:aL X.prog X.w X.K X.mg X.base CX k f fd ps sp)(z:cN k X.A)(G:Binds X.K fd ps ds)(J:Vals pN ds)(R:Passes CX X E)(M:PA X (e::es) t)(i:zAG (e::es) X.env=(false,zAM e X.env)::zAG es X.env:=by rfl) (j:(zAW pos (zAG es X.env)).any (·.1)=false:=by rfl)(P:zAM (.Call (.Attribute o m apos) (e::es) [] pos) X.env=(do let v <-zAM o X.env;zCX apos.atName;let (f,d) <-zBV [v] (zCE v m N);zDG pos f d (zAW pos (zAG (e::es) X.env)) (zBY pos (zAY [] X.env))):=by rfl) : PE X (.Call (.Attribute o m apos) (e::es) [] pos) (ud C m sp pN E ta t):=by intro b s σ H Q I h;refine PySem.W.methodCall_KW (aQ (S b s σ H _ I h) λu K L=>?_) P;obtain⟨x,T,y,A,a,Y,W,B,O,l,q⟩:=L;subst B;obtain rfl:u=Value.ref a:=A;refine uc y O c n l ?_;refine PySem.W.callWith_K I.ok.mod.HS n.kp (aQ (M pos b K σ T _ y q) λU s2 ⟨vs,Z,w,r,D⟩=>⟨w.pL,?_⟩) i j;exact Eg (vs:=.ref a::vs) F z G J R w (.cons rfl r) D
theorem Nk (J:PE X o ta)(c:gK X.K C)(j:Meth X.K C m f)(F:aL X.prog X.w X.K X.mg X.base CX k f fd ps sp)(z:cN k X.A)(w:Binds X.K fd ps ds)(G:Vals pN ds)(v:Passes CX X E)(B:zAM (.Call (.Attribute o m apos) [] [] pos) X.env=(do let n <-zAM o X.env;zCX apos.atName;let (f,b) <-zBV [n] (zCE n m A);zDG pos f b (zAW pos (zAG [] X.env)) (zBY pos (zAY [] X.env))):=by rfl) : PE X (.Call (.Attribute o m apos) [] [] pos) (ud C m sp pN E ta dR):=by intro g s σ H Q I h;refine PySem.W.methodCall_KW (aQ (J g s σ H _ I h) λu N r=>?_) B;obtain⟨x,M,i,K,a,L,O,D,y,l,q⟩:=r;subst D;obtain rfl:u=Value.ref a:=K;exact uc i y c j l (PySem.W.callWith_K0 i.pL j.kp (Eg (vs:=[.ref a]) F z w G v i (.cons rfl .nil) q))
structure Mk (K:zzA)(C f:M1):Prop where
 makes:PySem.W.makesIn K C=true
 init:PySem.W.findIn K (.ref C) "__init__"=some (some (.ref f))
 fn:PySem.W.isFn K (.ref f)=true
 kp:PySem.W.keepIn K (.ref C)=true
theorem Eh {a:zzC}{σ:St}{H:Hp}{s:VV}{Q:VK}{us:List Value}{vs:List V}(M:Mk X.K C f)(F:aL X.prog X.w X.K X.mg X.base CX k f fd ps sp)(j:cN (k+1) X.A)(n:Binds X.K fd ps ds)(q:Vals pN ds)(K:Passes CX X E) (I:Inv X a σ H s) (r:Vals vs us)(h:∀x c,H x=none->H c=none->c≠x->sp (.ref x::(vs++pN)) (upd (upd H c (.own x)) x (.ins C c [])) (λv w=>v=.bq/\Q (.ref x) w) E) : zAC (zAD X.prog X.w) X.A (call (.ref C) us) (EP X a σ Q) X.xe s:=by
 have g:=h _ s.heap.objs.size (I.hok.fresh (zCg _)) (I.hok.fresh (y6 _)) (wE (Nat.lt_succ_self _));have d:=Inv.made (C:=C) I;have i:Vals (V.ref (s.heap.objs.size+1)::(vs++pN)) _:=.cons rfl (r.append q);have B:(Value.ref (s.heap.objs.size+1)::us++ds).length=ps.length:=by have e:=i.length;rw[F.len _ _ _ _ g] at e;ext
 refine wpAny_call (Nj I.pL M.makes M.init (beq_iff_eq.mp M.fn) (zBW (F.run _ X.stack _ _ _ _ _ _ E (j.make C us []) (d.Tf.make C us []) (n _ _ d.pL B) i g) λr J b=>?_));cases r with| error e=>exact K a σ _ _ e J d b| ok D=> cases D with| ret u=> obtain⟨v,l,A,z,y,G⟩:=d.after b;subst y;exact⟨z,⟨V.ref _,l,A,rfl,G⟩⟩| next=>symm| brk=>symm| cont=>symm
theorem Q4 (M:Mk X.K C f)(F:aL X.prog X.w X.K X.mg X.base CX k f fd ps sp)(y:cN (k+1) X.A)(v:Gl X x)(u:X.mg x=some (.ref C))(i:Binds X.K fd ps ds)(l:Vals pN ds)(j:Passes CX X E)(n:PA X (e::es) t) (b:(x == ("__debug__":Str))=false:=by decide) (w:zAG (e::es) X.env=(false,zAM e X.env)::zAG es X.env:=by rfl) (d:(zAW pos (zAG es X.env)).any (·.1)=false:=by rfl) : PE X (.Call (.Name x p) (e::es) [] pos) (zE C sp pN E t):=by intro a s σ H Q I h;refine zBB (sG I v u ?_ b);refine PySem.W.callWith_K I.ok.mod.HS M.kp (aQ (n pos a s σ H _ I h) λz A ⟨D,B,g,r,q⟩=>⟨g.pL,?_⟩) w d;exact Eh M F y i l j g r q
theorem Nl (M:Mk X.K C f)(F:aL X.prog X.w X.K X.mg X.base CX k f fd ps sp)(j:cN (k+1) X.A)(d:Gl X x)(n:X.mg x=some (.ref C))(l:Binds X.K fd ps ds)(g:Vals pN ds)(i:Passes CX X E)(b:(x == ("__debug__":Str))=false:=by decide):PE X (.Call (.Name x p) [] [] pos) (zE C sp pN E dR):=by intro c s σ H Q I h;refine zBB (sG I d n ?_ b);exact PySem.W.callWith_K0 I.pL M.kp (Eh M F j l g i I .nil h)
end
section
variable {X:Cx}{CX:uT}{k:Nat}{f C:M1}{fd:zAF}{ps ks:List Str}{sp:Sp}{E:XK}{x m:Str}{p pos apos kpos:Pos}{e o:zAR}{es:List zAR}{kws:List zDV}{te ta:TE}{t tk:TA}{nm:Option Str}
variable {g:List Value->List Value->List Value}{gV:List V->List V->List V}
end
structure aN (N P:List Str)(sc:zCT):Prop where
 kind:sc.kind=.function
 co:sc.isCoroutine=false
 gen:sc.isGenerator=false
 nd:N.Nodup
 pre:N.take P.length=P
 par:∀x∈P,sc.names.lookup x=some .local\/sc.names.lookup x=some .cell
 Tg:∀y∈sc.names,y.2≠.free
theorem B3 {kindOf:Str->Option zAZ}:∀{a:List (Str × Value)} {m:Str->Option Value},(∀v,(x,v)∉a)->bindL kindOf a m x=m x
 | [],_,_=>rfl| (n,v)::r,m,h=>by
  unfold bindL;rw[B3 (by ext)];split;·grind
  rfl
theorem B4 {kindOf:Str->Option zAZ}:∀{a:List (Str × Value)} {m:Str->Option Value},(∀v,(x,v)∉a)->bindC kindOf a m x=m x
 | [],_,_=>rfl| (n,v)::r,m,h=>by
  unfold bindC;rw[B4 (by ext)];split;·rfl
  grind
theorem B6 {kindOf:Str->Option zAZ}{x:Str}{v:Value}:∀{P:List Str} {vs:List Value} {i:Nat} {m:Str->Option Value},P.Nodup->P[i]?=some x->vs[i]?=some v->kindOf x=some .local-> bindL kindOf (P.zip vs) m x=some v| [],_,_,_,_,h,_,_=>by ext| _::_,[],_,_,_,_,h,_=>by ext| p::P,w::vs,0,m,d,c,a,b=>by simp at c a; subst c; subst a;show bindL kindOf ((p,w)::P.zip vs) m p=_;unfold bindL;rw[B3 λv e=>(zB6.mp d).1 (List.of_mem_zip e).1,v6 b];simp| p::P,w::vs,i+1,m,d,c,a,b=>by unfold bindL;exact B6 (by ext) ‹_› ‹_› b
theorem B7 {kindOf:Str->Option zAZ}{x:Str}{v:Value}:∀{P:List Str} {vs:List Value} {i:Nat} {m:Str->Option Value},P.Nodup->P[i]?=some x->vs[i]?=some v->kindOf x≠some .local-> bindC kindOf (P.zip vs) m x=some v| [],_,_,_,_,h,_,_=>by ext| _::_,[],_,_,_,_,h,_=>by ext| p::P,w::vs,0,m,d,c,a,b=>by simp at c a; subst c; subst a;show bindC kindOf ((p,w)::P.zip vs) m p=_;unfold bindC;rw[B4 λv e=>(zB6.mp d).1 (List.of_mem_zip e).1,xI b];simp| p::P,w::vs,i+1,m,d,c,a,b=>by unfold bindC;exact B7 (by ext) ‹_› ‹_› b
noncomputable def start (N:List Str)(vs:List V):St:=vs.map some++replicate (N.length - vs.length) none
noncomputable def vG (CX:uT)(P:zAA)(w:zAE)(K:zzA)(mg:Str->Option Value)(base:Heap)(N:List Str)(b:Str)(a:zCT)(f:M1)(d:Value)(A:zAI)(outer:List Env)(s:VV)(H:Hp)(E:XK):Cx where prog:=P;w:=w;K:=K;mg:=mg;base:=base;A:=A.deeper (zDL b a s.heap.objs.size f d);N:=N;s₀:=s;H₀:=H;env:=zDL b a s.heap.objs.size f d;outer:=outer;stack:=zDL b a s.heap.objs.size f d::outer;ex:=[];calm:=true;fn:=λ_=>true;pn:=[];xe:=λe h=>zAC (zAD P w) (A.deeper (zDL b a s.heap.objs.size f d)) (leaving (zDL b a s.heap.objs.size f d) e) (λ_ c=>CX outer H s E e c) (λi c=>CX outer H s E i c) h
theorem Ei {b:zCT}(h:b.names.lookup x=some .cell):∃c,(zAU n b.names []).lookup x=some c:=by have q:=zCn b.names n [] (.inl h);exact zCi.mp q
theorem K2 {K:zzA}(S:aN N ps a) (Q:A.handled=none) (l:yG P w K C base A g s H) (R:vs.length=ps.length) (r:Vals vs us)(x:InCallC s s.heap.objs.size (bindL (zDL j a s.heap.objs.size f t).kindOf (ps.zip us) λ_=>none) (zAU (s.heap.objs.size+1) a.names []) (bindC (zDL j a s.heap.objs.size f t).kindOf (ps.zip us) λ_=>none) G) : Inv (vG CX P w K C base N j a f t A g s H E) [] (start N vs) H G:=by
 have O:ps.length<=N.length:=by have:=zAz length S.pre; grind
 obtain⟨D,W,rfl,F⟩:=x.done;have M:∀b:M1,b∉(vG CX P w K C base N j a f t A g s H E).ex:=λb z=>absurd (show b∈([]:List M1) from z) (by simp);refine⟨⟨l.mod,S.kind,rfl,rfl,y6 _,λy z c D B=>?_,λy n=>?_,λy c _ h=>?_,λ_=>Q,Around.frames_deeper l.frames,.inr ⟨rfl,rfl⟩,(by ext),l.bs,l.zv,(by ext),(by ext),l.om,l.DX⟩, rfl,l.bare,Un.kept F,⟨_,x.toInCall.ns,λi y v D B U=>?_⟩,λy c h=>⟨_,x.cell y c h⟩,l.hok.fresh (y6 _),λy c h=>?_,λp o=>absurd (show p∈([]) from o) (by simp),l.hok.kept F,?_⟩;·exact name_of_addr x.apart (zC5 D) (zC5 B)
 ·rcases n with n | n;·exact Ei n
  ·exact absurd rfl (S.Tg _ (zC5 n))
 ·exact zBk (x.above y c (zC5 h))
 ·have T:i < vs.length:=by unfold start at B;grind
  have J:vs[i]?=some v:=by unfold start at B;grind
  obtain⟨u,I,L⟩:=r.get J;have o:ps[i]?=some y:=by rw[<-S.pre,List.getElem?_take_of_lt (by ext)]; symm
  have m:ps.Nodup:=by rw[<-S.pre]; exact S.nd.sublist (List.take_sublist _ _)
  refine⟨u,L,?_⟩;rcases S.par y (j1 o) with k | k;·exact .inl ⟨k,B6 m o I k⟩
  ·obtain⟨c,e⟩:=Ei k;refine .inr ⟨.inl k,c,e,?_⟩;have q:=x.cell y c e;rw[B7 m o I (by show a.names.lookup y≠_; rw[k]; decide)] at q;exact q
 ·exact l.hok.fresh (zBk (x.above y c (zC5 h)))
 ·unfold start;show _=N.length;rw[zAf,yB,List.length_replicate];ext
theorem Pa {K:zzA}{Z kV D pm h ct oc:Value}(lk:K.lookup f=some ⟨oc,od,.func (PySem.W.fnOf name g i j a Z kV D pm X h ct),U⟩) (O:PySem.W.codeIn K h g=true) (S:aN N ps a)(F:∀vs H Q E,sp vs H Q E->vs.length=ps.length)(m:∀(A:zAI) (c:List Env) (s:VV) (H:Hp) (vs:List V) (Q:VK) (E:XK),cN k (A.deeper (zDL g a s.heap.objs.size f h))->sp vs H Q E-> ∃t,sE (vG CX P w K G base N g a f h A c s H E) j t/\t { nx:=λ_ H'=>Q .bq H',rt:=Q } (start N vs) H) : aL P w K G base CX (k+1) f (PySem.W.fnOf name g i j a Z kV D pm X h ct) ps sp:=by
 refine⟨F,λA c s H Y us vs Q E M B hb r z=>?_⟩;have hl:=F _ _ _ _ z;have KX:=B.mod.HS.keeps λb o e=>(B.bs b o e).1;have T:=B.mod.nolimit.keeps λb o e=>(B.bs b o e).1;have l:∀y∈ps.zip us,a.names.lookup y.1=some .local\/(a.names.lookup y.1=some _/\((zAU (s.heap.objs.size+1) a.names []).lookup y.1).isSome=true):=λ⟨n,v⟩ hy=>by
  rcases S.par n (List.of_mem_zip hy).1 with q | q;·ext
  ·exact .inr ⟨q,zCn _ _ _ (.inl q)⟩
 refine codeAny_call_function M.depth (KX _ _ lk) rfl S.co S.gen rfl (PySem.W.codeRec_of KX O) (hb _ _ _ _ ?_);refine wpAny_newFunctionEnv_cells S.kind l λenv he s1 x=>?_;subst he;refine⟨T.keeps x.toInCall.keep,codeAny_func ?_⟩;obtain⟨t,ht,hq⟩:=m A c s H vs Q E (M.deeper _) z;have I:Inv (vG CX P w K G base N g a f h A c s H E) [] _ H s1:=K2 S M.hd B hl r x;refine zB3 (ht [] s1 _ H _ I hq) (λfl W p=>?_) λe W p=>p;have C:∀{L:St} {H':Hp} {v:V} {u:Value},Inv (vG CX P w K G base N g a f h A c s H E) [] L H' W->RelV v u->Q v H'->CE c P w H s Q u W:= λ{L H' v u} J R q=>⟨v,H',J.os,J.bare,J.base,J.hok,R,q⟩;cases fl with| ret u=> obtain⟨v,L,H',J,R,q⟩:=p;exact C J R q| next=> obtain⟨L,H',J,q⟩:=p;exact C (v:=V.bq) J rfl q| brk=> obtain⟨_,_,_,q⟩:=p;exact False.elim q| cont=> obtain⟨_,_,_,q⟩:=p;exact False.elim q
section
variable {X:Cx}{x:Str}{p pos:Pos}{e:zAR}{es:List zAR}{t:TA}{id T:String}{r:List V->Hp->VK->Prop}
noncomputable def oN (r:List V->Hp->VK->Prop)(t:TA):TE:=fun σ H Q=>t σ H λa b=>r a b Q
theorem aH (i:b_ X (.builtin id) r)(y:Gl X x)(l:X.mg x=none)(m:zCM x=some (.builtin id))(k:PA X (e::es) t)(o:x≠"__name__":=by decide)(c:(x == ("__debug__":Str))=false:=by decide)(w:zAG (e::es) X.env=(false,zAM e X.env)::zAG es X.env:=by rfl) (d:(zAW pos (zAG es X.env)).any (·.1)=false:=by rfl):PE X (.Call (.Name x p) (e::es) [] pos) (oN r t):=by intro a s σ H Q I h;refine zBB (nO I y l m ?_ o c);exact PyProof.Rows.callWith_builtin1 (aQ (k pos a s σ H _ I h) λj f ⟨v,n,u,q,g⟩=>i a f σ n v j Q u q g) w d
theorem gM (i:b_ X (.type T) r)(y:Gl X x)(l:X.mg x=none)(m:zCM x=some (.type T))(k:PA X (e::es) t)(o:x≠"__name__":=by decide)(c:(x == ("__debug__":Str))=false:=by decide)(w:zAG (e::es) X.env=(false,zAM e X.env)::zAG es X.env:=by rfl) (d:(zAW pos (zAG es X.env)).any (·.1)=false:=by rfl):PE X (.Call (.Name x p) (e::es) [] pos) (oN r t):=by intro a s σ H Q I h;refine zBB (nO I y l m ?_ o c);exact zBi (aQ (k pos a s σ H _ I h) λj f ⟨v,n,u,q,g⟩=>i a f σ n v j Q u q g) w d
end
end L2
namespace HT
open PySem PyProof.Rows
noncomputable def lexLt:List Int->List Int->Bool| [],[]=>false| [],_::_=>true| _::_,[]=>false| x::b,y::a=>if x=y then lexLt b a else decide (x < y)
theorem eV (x y:Int)(xs ys:List Int):lexLt (x::xs) (y::ys)=if x=y then lexLt xs ys else decide (x < y):=rfl
theorem C0:lexLt [] []=false:=rfl
theorem A1 (y:Int)(ys:List Int):lexLt [] (y::ys)=true:=rfl
theorem A2 (x:Int)(xs:List Int):lexLt (x::xs) []=false:=rfl
theorem Nm (A:zAI)(s:VV)(a:Int)(t:Tok)(c:Int)(u:Tok):∃e,SeqAt.EqAt A s (.int a t) (.int c u) e/\(e=true↔a=c):=⟨(a == c),SeqAt.EqAt.int_int a t c u,by simp⟩
theorem Nn (A:zAI)(s:VV)(a:Int)(t:Tok)(c:Int)(u:Tok)(prog:zAA)(w:zAE)(E:zzE)(Q:zzE)(h:Q (.bool (decide (a < c))) s) : zAC (zAD prog w) A (richCompare .Lt (.int a t) (.int c u)) Q E s:=(PyProof.Rows.lt_int h)
section
open PySem.SeqAt
open PySem.AutoSeq1 (wpAny_loadPart')
open PySem.MeetsSeq PySem.MeetsSeq2 PySem.MeetsSeq3
theorem C1 (l b:M1)(items f:Array Value)(n n2:Nat)(dd J:Option M1)(W O:Array (Option Value))(ns ms:List Int)(hi:zBI items.toList ns)(U:zBI f.toList ms) : Meets (Builtin.«tuple.__lt__» ⟨[.ref l,.ref b],[]⟩) (λ_ R s=>s.heap.get? l=some { cls:=.type "tuple",dict:=dd,data:=.seq items n,slots:=W }/\s.heap.get? b=some { cls:=.type "tuple",dict:=J,data:=.seq f n2,slots:=O }/\ R (.ok (.ret (.bool (lexLt ns ms)))) s):= .of_wp λm w A R s h=>by
  obtain⟨I,g,d,N,os⟩:=s; obtain⟨T,V,h⟩:=h;have f2:=AutoSeq1.sub_tuple_tuple;have z1:items.size=ns.length:=by rw[<-hi.length]; simp
  have z2:f.size=ms.length:=by rw[<-U.length]; simp
  wp_walk using wpAny_loadPart' T,wpAny_loadPart' V,zBJ _ (λo b L=>b.1=none/\L=⟨I,g,d,N,os⟩/\∃(F G:List Value) (j i:List Int),o=F.zip G/\ zBI F j/\zBI G i/\j.length+f.size=i.length+items.size/\R (.ok (.ret (.bool (lexLt j i)))) ⟨I,g,d,N,os⟩) _;case turn=> rintro⟨y,x⟩ o b L ⟨z,rfl,F,G,j,i,H,q,k,p,B⟩;cases q with| nil=>cases H| cons a t E=> cases k with| nil=>cases H| cons c u C=> injection H with M r;injection M with Z X;subst Z X;rw[eV] at B;simp at p;obtain⟨e,Y,D⟩:=Nm A.in1 _ a t c u;refine yA (Y m w _ _ ?_);cases e with| true=> rw[v6 (D.mp rfl)] at B;wp_walk;exact⟨rfl,rfl,_,_,_,_,r,E,C,by lia,B⟩| false=> have K:=Nn A.in1 ⟨I,g,d,N,os⟩ a t c u m w;wp_walk using K;ext
  case fin=>
   rintro⟨b1,b2⟩ L ⟨z,rfl,F,G,j,i,H,q,k,p,B⟩;subst z;have Q:lexLt j i=decide (items.size < f.size):=by cases q with
    | nil=> cases k with| nil=> rw[C0];ext| cons c u S=> rw[A1];ext
    | cons a t Q=> cases k with| nil=> rw[A2];grind| cons c u S=> ext
   rw[Q] at B;wp_walk;exact⟨_,rfl,by symm⟩
  grind
end
section
variable {prog:zAA}{w:zAE}{A:zAI}{E:zzE}{s:VV}
theorem JF {l b:M1}{items a:Array Value}{ns ms:List Int}{Q:zzE}(x:zDX s.heap l items)(m:zDX s.heap b a)(v:zBI items.toList ns)(u:zBI a.toList ms)(y:A.units < zAN) (h:Q (.bool (lexLt ns ms)) s):zAC (zAD prog w) A (zAK .Lt (.ref l) (.ref b)) Q E s:=by obtain⟨⟨o,q,k,r⟩,t,z,n,B⟩:=id x;obtain⟨⟨j,d,data2,i⟩,e,f,p,g⟩:=id m;subst z B f g;exact richCompare_meets_room (op:=.Lt) ⟨_,t,rfl⟩ ⟨_,e,rfl⟩ PySem.F.slot_tuple_lt PySem.F.entry_tuple_lt (PySem.F.args_tuple_lt_2 _ _) (C1 l b items a n p q d r i ns ms v u) (by grind) y
theorem Q5 {t b:M1}{vs ws:List Value}{Q:zzE}(u:zDX s.heap t vs.toArray)(v:zDX s.heap b ws.toArray)(z:vs≠[])(y:ws=[]->Q (.ref t) s) (x:ws≠[]->Q (.ref s.heap.objs.size) { s with heap:=s.heap.push { cls:=.type "tuple",data:=.seq (vs++ws).toArray } })(p:vs.length+ws.length<=PK):zAC (zAD prog w) A (zAV .Add (.ref t) (.ref b)) Q E s:=by
 obtain⟨⟨cls,m,data,k⟩,i,r,n,o⟩:=id u;obtain⟨⟨j,d,data2,f⟩,c,g,l,h⟩:=id v;subst r o g h;have e:vs.toArray++ws.toArray=(vs++ws).toArray:=by simp
 by_cases q:ws=[]
 ·exact concat_meets ⟨_,i,rfl⟩ ⟨_,c,rfl⟩ zDI seq_tuple_add PySem.F.slot_tuple_add PySem.F.entry_tuple_add (PySem.F.args_tuple_add_2 _ _) (tuple_addW1 t b vs.toArray ws.toArray n l m d k f (by ext) (by ext)) (by ext)
 ·refine concat_meets ⟨_,i,rfl⟩ ⟨_,c,rfl⟩ zDI seq_tuple_add PySem.F.slot_tuple_add PySem.F.entry_tuple_add (PySem.F.args_tuple_add_2 _ _) (tuple_addW2 t b vs.toArray ws.toArray n l m d k f (by ext) (by ext) ‹_›) ⟨i,c,?_⟩;rw[e];exact x q
noncomputable def dW (n d:Nat):Option Int->Nat| none=>d| some v=>if v < 0 then (v+(n:Int)).toNat else min v.toNat n
theorem Ej (n d:Nat):dW n d none=d:=rfl
theorem sO (n d k:Nat):dW n d (some (k:Int))=min k n:=by rfl
theorem Ia (v:Int)(n d:Nat):(if v < 0 then max (v+(n:Int)) 0 else min v (n:Int))=((dW n d (some v):Nat):Int):=by show (if v < 0 then max _ 0 else min v n)=(((if v < 0 then (v+n).toNat else min v.toNat n)));grind
theorem JG (lo a:Option Int)(n:Nat):Builtin.Slice.sliceAdjust lo a 1 (n:Int)=(((dW n 0 lo:Nat):Int),((dW n n a:Nat):Int)):=by
 refine Prod.ext ?_ ?_;·cases lo with| none=>rfl| some v=>exact Ia v n 0
 ·cases a with| none=>rfl| some v=>exact Ia v n n
theorem JH (i j:Nat):Builtin.Slice.slicePlaces (i:Int) (j:Int) 1=j - i:=by unfold Builtin.Slice.slicePlaces;lia
theorem zF {v:Value}{o:Option Int}{Q:Option Int->VV->Prop}(p:zCF v o)(h:Q o s):zAC (zAD prog w) A (Builtin.Slice.slicePartIndex v) Q E s:=by cases p with| none=>exact slicePart_none h| int i t=>exact slicePart_int h
theorem yH {d:M1}{f e:Value}{lo c:Option Int}{n:Nat}{Q:Int × Int × Nat->VV->Prop}(k:s.heap.IsSliceOf d f e .none)(g:zCF f lo)(j:zCF e c)(h:Q (((dW n 0 lo:Nat):Int),1,dW n n c - dW n 0 lo) s):zAC (zAD prog w) A (Builtin.Slice.sliceApplied (.ref d) (pure (n:Int))) Q E s:=by obtain⟨os,a,i,b⟩:=id k;refine yA (yA (zBy a b rfl (yA (zBy a b rfl (yA (zBy a b rfl (y4 ?_)))))));refine yA (slicePart_none ?_);refine yA (zF g (yA (zF j (yA (y4 ?_)))));show zAC _ _ (match Builtin.Slice.sliceAdjust lo c 1 _ with | (lo,c)=>pure (lo,(1:Int),Builtin.Slice.slicePlaces lo c 1)) _ _ s;rw[JG lo c n];show zAC _ _ (pure _) _ _ s;rw[JH];exact y4 h
theorem Np (xs:Array Value)(i k:Nat):((range k).filterMap λ(m:Nat)=>xs[((i:Int)+(m:Int) * 1).toNat]?).toArray=((xs.toList.drop i).take k).toArray:=by
 have e:(λ(m:Nat)=>xs[((i:Int)+(m:Int) * 1).toNat]?)=λm=>xs[i+m]?:=by
  funext m;have:((i:Int)+(m:Int) * 1).toNat=i+m:=by lia
  rw[this]
 rw[e];have:=pick_run xs i k;rw[List.filterMap_map] at this;have a:((λx=>xs[x]?) ∘ λx=>i+x)=λm=>xs[i+m]?:=rfl;rw[a] at this;rw[this]
theorem xT {t e:M1}{items:Array Value}{k l:Value}{lo c:Option Int}{Q:zzE}(d:zDX s.heap t items)(m:s.heap.IsSliceOf e k l .none)(n:zCF k lo)(p:zCF l c)(r:¬ (dW items.size 0 lo=0/\dW items.size items.size c=items.size))(h:Q (.ref s.heap.objs.size) { s with heap:=s.heap.push { cls:=.type "tuple",data:=.seq ((items.toList.drop (dW items.size 0 lo)).take (dW items.size items.size c - dW items.size 0 lo)).toArray } })(o:items.size<=PK):zAC (zAD prog w) A (zCO (.ref t) (.ref e)) Q E s:=by
 have b:=by show ((items.toList.drop (dW items.size 0 lo)).take (dW items.size items.size c - dW items.size 0 lo)).toArray.size<=PK;grind
 obtain⟨os,g,f,q⟩:=id m;have j:s.TypeIs (.ref e) _:=⟨os,g,f⟩;unfold zCO;try with_reducible refine zBg ?_
 refine yA (wpAny_sequenceKey d.typeIs (by decide) ?_);refine yA (zB5 d.typeIs PyProof.Rows.slot_tuple_getitem (zBh PyProof.Rows.slot_tuple_getitem d.typeIs entry_tuple_getitem ?_ (args_tuple_getitem _ _)));show zAC _ _ (Builtin.Tuple.tupleItemsOf _ >>= _) _ _ s;refine yA (tupleItemsOf_ d ?_);refine yA (zCp j ?_);refine yA (yH m n p ?_);have i:¬ ((((dW items.size 0 lo):Int) == 0&&(1:Int) == 1&&(dW items.size items.size c - dW items.size 0 lo) == items.size)=true):=by ext
 show zAC _ _ (if (((dW items.size 0 lo):Int) == 0&&(1) == 1&&(dW items.size items.size c - dW items.size 0 lo) == items.size)=true then _ else _) _ _ s;rw[xI i,Np];first| exact yA (zCy (y4 ⟨_,rfl,y4 h⟩) b)
end
end HT
namespace L2
open PySem PySem.Spec PyProof.Rows
abbrev TO:=St->Hp->(Option Int->Hp->Prop)->Prop
noncomputable def PO (X:Cx)(e:Option zAR)(t:TO):Prop:= ∀(a:zzC) (s:VV) (σ:St) (H:Hp) (Q:Option Int->Hp->Prop),Inv X a σ H s->t σ H Q-> zAC (zAD X.prog X.w) X.A (evalPart e X.env) (λu c=>∃o b,Inv X a σ b c/\zCF u o/\Q o b) X.xe s
noncomputable def A3:TO:=λ_ H Q=>Q none H
noncomputable def zG (t:TE):TO:=fun σ H Q=>t σ H λx a=>∃i,x=.int i/\Q (some i) a
theorem intsAre_of:∀{us:List Value},Vals (ns.map V.int) us->zBI us ns:=by induction ns with| nil=>intro us r; cases r; exact .nil| cons n ns a=> intro us r;cases r with| cons c b=> obtain⟨t,e⟩:=c;subst e;exact .cons n t (a b)
section
variable {X:Cx}{e:zAR}{te:TE}{lo hi:Option zAR}{tl th:TO}{pos p2:Pos}
theorem A4:PO X none A3:=by intro a s σ H Q I h;exact y4 ⟨none,H,I,.none,h⟩
theorem sP (h:PE X e te):PO X (some e) (zG te):=by intro a s σ H Q I b;refine aQ (h a s σ H _ I b) λu k d=>?_;obtain⟨x,g,c,f,j⟩:=d;obtain⟨i,rfl,q⟩:=j;obtain⟨t,rfl⟩:=f;exact⟨some i,g,c,.int i t,q⟩
noncomputable def K3 (X:Cx)(r:V->Option Int->Option Int->Hp->VK->Prop):Prop:= ∀(a:zzC) (s:VV) (σ:St) (H:Hp) (x:V) (v d c:Value) (lo hi:Option Int) (b:M1) (Q:VK),Inv X a σ H s->RelV x v->s.heap.IsSliceOf b d c .none->zCF d lo->zCF c hi->r x lo hi H Q-> ∃T id,zDZ (.type T) "__getitem__"=pure (some (.builtin id))/\s.TypeIs v T/\zAC (zAD X.prog X.w) X.A (zCO v (.ref b)) (EP X a σ Q) X.xe s
noncomputable def Pb (r:V->Option Int->Option Int->Hp->VK->Prop)(te:TE)(tl th:TO):TE:=fun σ H Q=>te σ H λx b=>tl σ b λl a=>th σ a λu c=>r x l u c Q
theorem ue (w:K3 X r)(K:PE X e te)(E:PO X lo tl)(J:PO X hi th):PE X (.Subscript e (.Slice lo hi none p2) pos) (Pb r te tl th):=by intro a s σ H Q I h;refine zDa (aQ (K a s σ H _ I h) λv M c=>?_);obtain⟨x,p,B,y,C⟩:=c;refine wpAny_Slice (aQ (E a M σ p _ B C) λi D ⟨l,j,n,k,m⟩=>aQ (J a D σ j _ n m) λf d c=>?_);obtain⟨u,g,A,o,G⟩:=c;refine y4 ?_;have t:Inv X a σ g { d with heap:=d.heap.push { cls:=.type "slice",data:=.fields #[i,f,.none] } }:=A.kept λb N q=>y1 _ q;obtain⟨T,id,F,z,L⟩:=w a _ σ g x v i f l u d.heap.objs.size Q t y (Heap.IsSliceOf.new ..) k o G;exact tail_any z F L (by rfl)
noncomputable def ki (xs:List V)(lo hi:Option Int):List V:=(xs.drop (HT.dW xs.length 0 lo)).take (HT.dW xs.length xs.length hi - HT.dW xs.length 0 lo)
theorem ya (xs:List V)(lo hi:Option Int):(ki xs lo hi).length<=xs.length:=by unfold ki;rw[zBv,List.length_drop];lia
noncomputable def JI (K:zzA):V->Option Int->Option Int->Hp->VK->Prop:=λx lo hi H Q=>∃a b,x=.ref a/\aG K H a b/\ ¬ (HT.dW b.length 0 lo=0/\HT.dW b.length b.length hi=b.length)/\∀p,H p=none->Q (.ref p) (upd H p (.tup (ki b lo hi)))
theorem Th:K3 X (JI X.K):=by
 intro i s σ H x v y w lo hi z Q I p m l k h;obtain⟨a,g,rfl,o,t,q⟩:=h;cases p;obtain⟨f,r,j,n⟩:=I.tuple o;have c:f.toArray.size=g.length:=by exact r.length.symm
 refine⟨"tuple",_,PyProof.Rows.slot_tuple_getitem.lookup,j.typeIs,?_⟩;refine HT.xT j m l k (by ext) ?_ (by ext);rw[c];refine⟨.ref s.heap.objs.size,_,I.laid (λb u q=>y1 _ q) (y6 _) ?_,rfl,q _ (I.hok.fresh (y6 _))⟩;exact⟨zAv (ya g lo hi) n,_,(r.drop _).take _,IsTup.new _ _⟩
noncomputable def Nq (K:zzA):R2:=λx y H Q=>∃a b d f,x=.ref a/\y=.ref b/\aG K H a (d.map V.int)/\aG K H b (f.map V.int)/\Q (.bl (HT.lexLt d f)) H
theorem Ti (m:X.A.units < zAN):dU X (zAK .Lt) (Nq X.K):=by intro c s σ H x y v u Q I r f h;obtain⟨a,b,t,z,rfl,rfl,n,o,q⟩:=h;cases r;cases f;obtain⟨l,j,p,_⟩:=I.tuple n;obtain⟨d,k,p2,_⟩:=I.tuple o;have g:=intsAre_of j;have i:=intsAre_of k;exact HT.JF p p2 g i m ⟨.bl _,H,I,rfl,q⟩
noncomputable def WI (K:zzA):R2:=λx y H Q=>∃a b d c,x=.ref a/\y=.ref b/\aG K H a d/\aG K H b c/\d≠[]/\d.length+c.length<=PK/\(c=[]->Q (.ref a) H)/\(c≠[]->∀p,H p=none->Q (.ref p) (upd H p (.tup (d++c))))
theorem Vals.A5 (r:Vals xs us):us=[]↔xs=[]:=by cases r with| nil=>simp| cons _ _=>simp
theorem Q6:dU X (zAV .Add) (WI X.K):=by intro g s σ H x y v u Q I k i h;obtain⟨a,b,B,D,rfl,rfl,n,o,j,t,l,p⟩:=h;cases k;cases i;obtain⟨m,d,r,_⟩:=I.tuple n;obtain⟨f,c,p2,_⟩:=I.tuple o;refine HT.Q5 r p2 (λz=>j (d.A5.mp z)) (λz=>⟨.ref a,H,I,rfl,l (c.A5.mp z)⟩) (λz=>?_) (by rw[<-d.length,<-c.length]; symm);refine⟨.ref s.heap.objs.size,_,I.laid (λb A q=>y1 _ q) (y6 _) ?_,rfl,p (λw=>z (c.A5.mpr w)) _ (I.hok.fresh (y6 _))⟩;exact⟨by ext,_,d.append c,IsTup.new _ _⟩
end
noncomputable def zH (n:Nat)(i:Int):Option Nat:=if 0<=i then (if i < n then some i.toNat else none) else if -(n:Int)<=i then some (i+n).toNat else none
noncomputable def g6 {α:Type}(xs:List α)(i:Int):Option α:=(zH xs.length i).bind λj=>xs[j]?
theorem Q7 (h:zH n i=some j):seqIndex? i n=some j/\j < n/\-(n:Int)<=i/\i < n:=by
 unfold zH at h;by_cases b:0<=i
 ·rw[v6 b] at h;by_cases a:i < n
  ·rw[v6 a] at h;have e:=zAy h;exact⟨by rw[seqIndex_of b a,e],by lia,by lia,a⟩
  ext
 ·rw[xI b] at h;by_cases a:-n<=i
  ·rw[v6 a] at h;have e:=zAy h;exact⟨by rw[seqIndex_neg (by ext) a,e],by lia,a,by lia⟩
  ext
theorem A6 (h:g6 xs i=some v):∃j,seqIndex? i xs.length=some j/\xs[j]?=some v/\j < xs.length/\-(xs.length:Int)<=i/\i < xs.length:=by unfold g6 at h;cases e:zH xs.length i with| none=>ext| some j=> obtain⟨a,d,b,c⟩:=Q7 e;ext
theorem bL {j:Nat}(h:xs[j]?=some v):g6 xs (j:Int)=some v:=by
 have a:=(q0.mp h).1;have e:zH xs.length j=some j:=by unfold zH;ext
 unfold g6; ext
noncomputable def Q8 (b:zAR):Prop:=∀o i,zDO b false o i=operate [o,i] (zCO o i)
noncomputable def uU (X:Cx)(r:R2):Prop:= ∀(c a:zAR) (b:zzC) (s:VV) (σ:St) (H:Hp) (x y:V) (v u:Value) (Q:VK),Inv X b σ H s->RelV x v->RelV y u->r x y H Q-> zDO a false v u=operate [v,u] (zCO v u)->zAC (zAD X.prog X.w) X.A (subscriptTail c a v u) (EP X b σ Q) X.xe s
noncomputable def B8 (X:Cx)(id:String)(r:V->List V->Hp->VK->Prop):Prop:= ∀(a:zzC) (s:VV) (σ:St) (H:Hp) (x:V) (b:List V) (v:Value) (c:List Value) (Q:VK),Inv X a σ H s->RelV x v->Vals b c->r x b H Q-> zAC (zAD X.prog X.w) X.A (call (.builtin id) (v::c)) (EP X a σ Q) X.xe s
section
variable {X:Cx}{a b:zAR}{ta tb:TE}{pos:Pos}
theorem uU.or (h:uU X r)(h':uU X j):uU X (λx y H Q=>r x y H Q\/j x y H Q):=by
 intro d c e s σ H x y v u Q I i f q g;rcases q with q | q;·exact h d c e s σ H x y v u Q I i f q g
 ·exact h' d c e s σ H x y v u Q I i f q g
theorem aI (f:uU X r)(i:PE X a ta)(m:PE X b tb)(g:Q8 b):PE X (.Subscript a b pos) (cT r ta tb):=by intro c s σ H Q I h;exact zDa (Nc i m I h λv u e x y l k j d q=>f a b c e σ l x y v u Q k j d q (g _ _))
noncomputable def oq (K:zzA):R2:=λx y H Q=>∃p d i v,x=.ref p/\y=.int i/\ay K H p d/\g6 d i=some v/\Q v H
noncomputable def yI (K:zzA):R2:=λx y H Q=>∃p d i v,x=.ref p/\y=.int i/\aG K H p d/\g6 d i=some v/\Q v H
noncomputable def Nr:R2:=λx y H Q=>∃z i c,x=.str z/\y=.int i/\z.length<=PK/\g6 z.cps.toList i=some c/\Q (.str ⟨#[c]⟩) H
theorem Ib:uU X (oq X.K):=by
 intro l k c s σ H x y v u Q I G F h m;obtain⟨p,P,i,z,rfl,rfl,B,J,q⟩:=h;cases G;obtain⟨t,rfl⟩:=F;obtain⟨g,r,e,O⟩:=I.list B;obtain⟨j,o,A,N,E,C⟩:=A6 J;obtain⟨w,K,f⟩:=r.get A;have L:=r.length;have M:=Ef;have d:EP X c σ Q w s:=⟨z,H,I,f,q⟩;by_cases n:0<=i
 ·have D:i.toNat=j:=by rw[seqIndex_of n C] at o;ext
  exact item_listR e.isList n (by lia) (by ext) d m
 ·have D:(i+(g.toArray.size:Int)).toNat=j:=by rw[seqIndex_neg (by lia) E] at o;ext
  exact subscriptTail_builtinR (x:=w) e.isList.typeIs slot_list_getitem.lookup (wpAny_getItem_list_neg e.isList (by lia) (by ext) (by lia) (by ext) ⟨rfl,d⟩) m
theorem K4:uU X (yI X.K):=by intro g e c s σ H x y v u Q I C n h A;obtain⟨p,E,i,z,rfl,rfl,o,B,q⟩:=h;cases C;obtain⟨t,rfl⟩:=n;obtain⟨m,r,k,K⟩:=I.tuple o;obtain⟨j,F,l,L,N,D⟩:=A6 B;obtain⟨w,G,f⟩:=r.get l;have J:=r.length;have M:=Ef;have d:EP X c σ Q w s:=⟨z,H,I,f,q⟩;exact subscriptTail_builtinR k.typeIs slot_tuple_getitem.lookup (getItem_tuple (j:=j) k (by lia) (by lia) (by ext) (by ext) ⟨rfl,d⟩) A
theorem lU:uU X Nr:=by
 intro e d f s σ H x y v u Q I m g h k;obtain⟨z,i,c,rfl,rfl,A,l,q⟩:=h;obtain⟨t,rfl⟩:=m;obtain⟨o,rfl⟩:=g;obtain⟨j,w,C,p,r,D⟩:=A6 l;have B:z.cps.toList.length=z.length:=by rfl
 have n:=Ef;exact tail_any rfl slot_str_getitem.lookup (getItem_str (by grind) (by ext) ⟨.str _,H,I.tok _,⟨_,rfl⟩,q⟩) k
noncomputable def Tj (K:zzA):R2:=λx y H Q=>oq K x y H Q\/yI K x y H Q\/Nr x y H Q
theorem Tn:uU X (Tj X.K):=Ib.or (K4.or lU)
theorem Ek (lo c:Option Int)(n:Nat):(zCH lo c none n).1=((HT.dW n 0 lo:Nat):Int)/\(zCH lo c none n).2.1=((HT.dW n n c:Nat):Int)/\(zCH lo c none n).2.2=1:=by
 refine⟨?_,?_,rfl⟩;·cases lo with| none=>rfl| some i=> simp only [zCH,HT.dW,Option.getD_none,show (1) > 0 by decide,if_true];grind
 ·cases c with| none=>rfl| some i=> simp only [zCH,HT.dW,Option.getD_none,show (1) > 0 by decide,if_true];grind
theorem C2 (its:List Value)(lo c:Option Int):slicePick its.toArray lo c none=((its.drop (HT.dW its.length 0 lo)).take (HT.dW its.length its.length c - HT.dW its.length 0 lo)).toArray:=by obtain⟨g,e,f⟩:=Ek lo c its.toArray.size;unfold slicePick;rw[g,e,f];simp only [sliceRange_one,pick_run,zBf] <;> rfl
noncomputable def Nt (K:zzA):V->Option Int->Option Int->Hp->VK->Prop:=λx lo e H Q=>∃a d,x=.ref a/\ay K H a d/\∀p,H p=none->Q (.ref p) (upd H p (.lst (ki d lo e)))
theorem Q9:K3 X (Nt X.K):=by intro d s σ H x v t w lo l p Q I o k i f h;obtain⟨a,j,rfl,g,q⟩:=h;cases o;obtain⟨m,r,e,n⟩:=I.list g;have c:=r.length;refine⟨"list",_,slot_list_getitem.lookup,e.isList.typeIs,?_⟩;refine wpAny_getItem_list_slice e.isList k i f .none (by simp) ?_ (by ext);rw[C2,<-c];refine⟨.ref s.heap.objs.size,_,I.laid (λb u q=>y1 _ q) (y6 _) ?_,rfl,q _ (I.hok.fresh (y6 _))⟩;exact⟨zAv (ya j lo l) n,_,0,(r.drop _).take _,u3 _ rfl⟩
theorem El:b_ X (.type "list") (λxs H Q=>∃p ys,xs=[.ref p]/\(ay X.K H p ys\/aG X.K H p ys)/\∀l,H l=none->Q (.ref l) (upd H l (.lst ys))):=by
 intro v s σ H xs C Q I r h;obtain⟨p,ys,rfl,t,q⟩:=h;obtain⟨u,rfl,B⟩:=vals1 r;cases B;have j:∀c,Vals ys c->ys.length<=PK->∀(d:Heap) g,(∀b A,s.heap.get? b=some A->d.get? b=some A)-> d.get? s.heap.objs.size=some _->EP X v σ Q _ _:=λc f m d g k e=>⟨.ref s.heap.objs.size,_,I.laid (t':=s.toks) k (y6 _) (show bI X.prog X.w _ d _ (.lst ys) from ⟨m,c,g,f,e⟩),rfl,q _ (I.hok.fresh (y6 _))⟩;rcases t with t | t
 ·obtain⟨c,f,y,m⟩:=I.list t;have i:=f.length;obtain⟨o,x,w,n,z⟩:=y.isList;exact call_list_seq p (.inl rfl) x w z (λd g k e=>j c f m d g k e) (by ext)
 ·obtain⟨c,f,y,m⟩:=I.tuple t;have i:=f.length;obtain⟨o,x,w,n,z⟩:=y;exact call_list_seq p (.inr rfl) x w z (λd g k e=>j c f m d g k e) (by ext)
theorem C3:b_ X (.type "tuple") (λxs H Q=>∃p ys,xs=[.ref p]/\((ay X.K H p ys/\∀l,H l=none->Q (.ref l) (upd H l (.tup ys)))\/(aG X.K H p ys/\Q (.ref p) H))):=by
 intro k s σ H xs x Q I r h;obtain⟨p,ys,rfl,h⟩:=h;obtain⟨u,rfl,w⟩:=vals1 r;cases w;rcases h with ⟨g,q⟩ | ⟨g,q⟩
 ·obtain⟨c,d,f,j⟩:=I.list g;have i:=d.length;refine call_tuple_list f.isList (λt n=>?_) (by ext);have m:=I.kept (t':=s.toks) n;have v:= m.laid (t':=s.toks) (λb o e=>y1 _ e) (y6 _) (show bI X.prog X.w _ _ _ (.tup ys) from ⟨j,c,d,IsTup.new _ _⟩);exact⟨.ref t.objs.size,_,v,rfl,q _ (m.hok.fresh (y6 _))⟩
 ·obtain⟨c,d,f,j⟩:=I.tuple g;exact call_tuple_same f ⟨.ref p,H,I,rfl,q⟩
noncomputable def To (K:zzA)(T:String)(x:V)(H:Hp):Prop:=match x with| .str _=>T="str"| .int _=>T="int"| .ref p=>(T="list"/\∃e,ay K H p e)\/(T="tuple"/\∃o,K.lookup p=some o/\o.cls=.type "tuple"/\o.dict=none)\/(T="dict"/\((∃c,H p=some (.dK c))\/∃c,H p=some (.dT c)))\/(T="set"/\∃S n,H p=some (.set S n))| _=>False
theorem K6 (I:Inv X g σ H s)(r:RelV x v)(h:To X.K T x H) : s.TypeIs v T/\∀a,v=.ref a->∃q,s.heap.get? a=some q/\q.dict=none:=by cases x with
 | str z=> obtain⟨t,rfl⟩:=r;cases (show T="str" from h);exact⟨rfl,(by simp)⟩| int i=> obtain⟨t,rfl⟩:=r;cases (show T="int" from h);exact⟨rfl,(by simp)⟩| ref p=>
  cases r;rcases h with ⟨rfl,A,u⟩ | ⟨rfl,o,d,w,l⟩ | ⟨rfl,d⟩ | ⟨rfl,S,n,d⟩
  ·obtain⟨y,_,m,_⟩:=I.list u;refine⟨m.isList.typeIs,λa e=>?_⟩;obtain⟨o,n,e,c,l,_⟩:=m;ext
  ·refine⟨⟨o,I.pL p o d,w⟩,λa e=>?_⟩;cases e;exact⟨o,I.pL _ o d,l⟩
  ·have z:∃o,s.heap.get? p=some o/\o.ExactDict:=by
    rcases d with ⟨j,d⟩ | ⟨j,d⟩
    ·obtain⟨_,_,_,_,o,_,_,e,f,_⟩:=I.hok p _ d;ext
    ·obtain⟨_,_,_,_,o,_,_,e,f,_⟩:=I.hok p _ d;ext
   obtain⟨o,e,f⟩:=z;refine⟨⟨o,e,f.1⟩,λa k=>?_⟩;cases k;exact⟨o,e,f.2.1⟩
  ·obtain⟨o,_,_,_,e,f,_⟩:=I.hok p _ d;refine⟨⟨o,e,f.1⟩,λa k=>?_⟩;cases k;exact⟨o,e,f.2.1⟩| _=>exact False.elim h
noncomputable def Tp (K:zzA)(T:String)(r:V->List V->Hp->VK->Prop)(e:TE):TE:=fun σ H Q=>e σ H λx d=>To K T x d/\r x [] d Q
noncomputable def Ic (K:zzA)(T:String)(r:V->List V->Hp->VK->Prop)(e:TE)(t:TA):TE:=fun σ H Q=>e σ H λx d=>To K T x d/\t σ d λg f=>r x g f Q
variable {o e:zAR}{es:List zAR}{to:TE}{t:TA}{name:Str}{apos cpos:Pos}{T id:String}{r:V->List V->Hp->VK->Prop}
theorem Tq (B:zDb T)(g:Slot T name id)(j:typeOf (.builtin id)=pure (.type "method_descriptor"))(A:B8 X id r)(n:PE X o to)(f:zBA o name X.env (zAM o X.env)=zAM o X.env:=by rfl) (d:(apos.endLine == cpos.line)=true:=by rfl):PE X (.Call (.Attribute o name apos) [] [] cpos) (Tp X.K T r to):=by intro c s σ H Q I h;refine wpAny_Call_method0_late f d (aQ (n c s σ H _ I h) λv p q=>?_);obtain⟨x,w,l,m,u,y⟩:=q;obtain⟨z,C⟩:=K6 l m u;exact⟨T,id,B,g,j,z,C,zCo rfl (PySem.evalArgs_none (A c p σ w x [] v [] Q l m .nil y))⟩
theorem WJ (F:zDb T)(j:Slot T name id)(l:typeOf (.builtin id)=pure (.type "method_descriptor"))(B:B8 X id r)(G:PE X o to)(z:PA X (e::es) t)(d:zBA o name X.env (zAM o X.env)=zAM o X.env:=by rfl)(i:((zAW cpos (zAG (e::es) X.env)).all (λx=>!x.1)&&(zBY cpos (zAY [] X.env)).all (λx=>x.1.isSome) &&decide ((e::es).length+([]:List zDV).length+(if ([]:List zDV).isEmpty then 0 else 1) < 30))=true:=by rfl)(f:(apos.endLine == cpos.line)=true:=by rfl) (w:zAG (e::es) X.env=(false,zAM e X.env)::zAG es X.env:=by rfl) (k:(zAW cpos (zAG es X.env)).any (·.1)=false:=by rfl) : PE X (.Call (.Attribute o name apos) (e::es) [] cpos) (Ic X.K T r to t):=by intro c s σ H Q I h;refine wpAny_Call_method_late d i f rfl (aQ (G c s σ H _ I h) λv u D=>?_);obtain⟨x,N,m,p,E,O⟩:=D;obtain⟨J,q⟩:=K6 m p E;refine⟨T,id,F,j,l,J,q,?_⟩;have n:=z cpos c u σ N _ m O;rw[w] at n ⊢;refine zCo ‹_› (zCz ?_);exact aQ n λy L ⟨M,P,K,C,A⟩=>B c L σ P x M v y Q K p C A
end
noncomputable def Tr (X:Cx)(id:String)(r:V->List V->Hp->VK->Prop):Prop:= ∀(a:zzC) (s:VV) (σ:St) (H:Hp) (x:V) (b:List V) (v:Value) (c:List Value) (Q:VK),Inv X a σ H s->RelV x v->Vals b c->r x b H Q-> zAC (zAD X.prog X.w) X.A (call (.builtin id) (v::c)) (EP X a σ Q) X.xe s
theorem Vals.one:∀{x:V} {us:List Value},Vals [x] us->∃u,us=[u]/\RelV x u| _,_,.cons r .nil=>⟨_,rfl,r⟩
theorem Vals.zero:∀{us:List Value},Vals [] us->us=[]| _,.nil=>rfl
theorem Vals.dropLast (h:Vals xs us):Vals xs.dropLast us.dropLast:=by induction h with| nil=>exact .nil| cons r t a=> cases t with| nil=>exact .nil| cons q b=>exact .cons r a
theorem Vals.eraseIdx:∀{xs:List V} {us:List Value} (i:Nat),Vals xs us->Vals (xs.eraseIdx i) (us.eraseIdx i)| _,_,_,.nil=>.nil| _,_,0,.cons _ t=>t| _,_,i+1,.cons r t=>.cons r (Vals.eraseIdx i t)
theorem Vals.reverse (h:Vals xs us):Vals xs.reverse us.reverse:=by induction h with| nil=>exact .nil| cons r t a=>rw[List.reverse_cons,List.reverse_cons]; exact Vals.append a (.cons r .nil)
theorem Vals.rep (h:Vals xs us):∀k:Nat,Vals (replicate k xs).flatten (replicate k us).flatten| 0=>.nil| k+1=>by exact Vals.append h (Vals.rep h k)
theorem JJ {α:Type}(l:List α):l.eraseIdx (l.length - 1)=l.dropLast:=by induction l with| nil=>rfl| cons a r c=> cases r with| nil=>rfl| cons b r=>
   have e:(a::b::r).length - 1=((b::r).length - 1)+1:=by have d:(a::b::r).length=r.length+2:=rfl;have f:(b::r).length=r.length+1:=rfl;lia
   rw[e,List.eraseIdx_cons_succ,c];all_goals rfl
theorem B9 {α:Type}:∀(l:List α) (i:Nat),(l.eraseIdx i).length<=l.length| [],_=>y6 _| _::_,0=>zCg _| _::r,i+1=>Nat.succ_le_succ (B9 r i)
theorem foldl_rep (its:List Value):∀(k:Nat) (a:List Value), foldl (λd c=>d++c) a.toArray (replicate k its.toArray)=(a++(replicate k its).flatten).toArray
 | 0,a=>by simp| k+1,a=>by
  have e:a.toArray++its.toArray=(a++its).toArray:=by simp
  have b:(a++its)++(replicate k its).flatten=a++(replicate (k+1) its).flatten:=by grind
  rw[<-b,<-foldl_rep its k _,<-e,List.replicate_succ,List.foldl_cons]
section
variable {X:Cx}{pins:zzC}{σ:St}{H:Hp}{s:VV}{l b:M1}{xs ys zs:List V}
theorem Inv.Nu {its its':List Value}{n:Nat}{f:Array Value->Array Value}{t':Nat}(I:Inv X pins σ H s)(c:H l=some (.lst xs))(e:s.heap.get? l=some { cls:=.type "list",data:=.seq its.toArray n }) (h:f its.toArray=its'.toArray) (d:Vals ys its') (hz:ys.length<=PK) : Inv X pins σ (upd H l (.lst ys)) { s with heap:=s.heap.update l (mapSeq f),toks:=t' }:=by have q:=PySem.IsL.update e f;rw[h] at q;refine I.write (by rw[c]; exact trivial) (.inl rfl) (λj u i g=>(zA6 s.heap _ (Ne.symm i)).trans g) ⟨_,q⟩ ?_;exact⟨hz,its',_,d,q⟩
theorem Inv.JK (I:Inv X pins σ H s)(a:Vals ys its)(hz:ys.length<=PK) : Inv X pins σ (upd H s.heap.objs.size (.lst ys)) { s with heap:=s.heap.push { cls:=.type "list",data:=.seq its.toArray },toks:=t' }:= I.laid (λ_ _ q=>y1 _ q) (y6 _) ⟨hz,its,0,a,u3 _ rfl⟩
theorem Inv.fresh (I:Inv X pins σ H s):H s.heap.objs.size=none:=I.hok.fresh (y6 _)
theorem Inv.A7 (I:Inv X pins σ H s)(a:H l=some (.lst xs)):xs.length<=PK/\∃(its:List Value) (n:Nat),Vals xs its/\xs.length=its.length/\s.heap.get? l=some { cls:=.type "list",data:=.seq its.toArray n }:=by obtain⟨z,its,n,r,e⟩:=I.hok l _ a;exact⟨z,its,n,r,r.length,e⟩
theorem Nv (h:n<=PK):Builtin.List.listTooLong n=false:=by unfold Builtin.List.listTooLong;ext
end
section
variable {X:Cx}
noncomputable def A8:V->List V->Hp->VK->Prop:=λx b H Q=>∃l a y,x=.ref l/\b=[y]/\H l=some (.lst a)/\a.length < PK/\Q .bq (upd H l (.lst (a++[y])))
theorem dh:Tr X "list.append" A8:=by intro d s σ H x p v m Q I g f h;obtain⟨l,o,y,rfl,rfl,c,k,q⟩:=h;cases g;obtain⟨u,rfl,j⟩:=f.one;obtain⟨z,a,n,r,i,e⟩:=I.A7 c;refine zBP F.slot_list_append ⟨_,e,rfl⟩ F.entry_list_append (F.args_list_append_2 _ _) (PySem.list_append l a.toArray n u (by ext)) ⟨e,?_⟩;refine⟨.bq,_,I.Nu (its':=a++[u]) c e (by simp) (r.append ‹_›) ?_,rfl,q⟩;grind
noncomputable def YR:V->List V->Hp->VK->Prop:=λx b H Q=>∃l a y,x=.ref l/\b=[]/\H l=some (.lst a)/\a[a.length - 1]?=some y/\Q y (upd H l (.lst a.dropLast))
theorem ZM:Tr X "list.pop" YR:=by
 intro g s σ H x w v A Q I p i h;obtain⟨l,t,y,rfl,rfl,f,j,q⟩:=h;cases p;have d:=i.zero;subst d;obtain⟨z,a,n,r,k,e⟩:=I.A7 f;obtain⟨u,o,m⟩:=r.get j;have c:a.toArray[a.toArray.size - 1]?=some u:=by show a.toArray[a.length - 1]?=some u;rw[<-zBt,<-k];exact o
 refine zBP F.slot_list_pop ⟨_,e,rfl⟩ F.entry_list_pop (F.args_list_pop_1 _) (MeetsSeq.list_pop_last l a.toArray n u c (by rw[zBf]; lia)) ⟨e,?_⟩;refine⟨y,_,I.Nu (its':=a.dropLast) f e ?_ r.dropLast ?_,m,q⟩
 ·show a.toArray.eraseIdxIfInBounds (a.toArray.size - 1)=a.dropLast.toArray;rw[zBf,List.eraseIdxIfInBounds_toArray,JJ]
 ·rw[List.length_dropLast];lia
noncomputable def Tt:V->List V->Hp->VK->Prop:=λx b H Q=>∃l a i k y,x=.ref l/\b=[.int i]/\H l=some (.lst a)/\-(2 ^ 63)<=i/\i < 2 ^ 63/\seqIndex? i a.length=some k/\a[k]?=some y/\Q y (upd H l (.lst (a.eraseIdx k)))
theorem Nx:Tr X "list.pop" Tt:=by
 intro f s σ H x G v J Q I C o h;obtain⟨l,D,i,k,y,rfl,rfl,d,j,E,m,A,q⟩:=h;cases C;obtain⟨u,rfl,B⟩:=o.one;obtain⟨t,rfl⟩:=B;obtain⟨z,a,n,r,p,e⟩:=I.A7 d;obtain⟨w,g,c⟩:=r.get A;refine zBP F.slot_list_pop ⟨_,e,rfl⟩ F.entry_list_pop (F.args_list_pop_2 _ _) (MeetsSeq.list_pop_at l a.toArray n i t k w (fitsIndex_both j E) (by rw[zBf,<-p]; exact m) (by rw[<-zBt]; exact g) (by rw[zBf]; lia)) ⟨e,?_⟩;refine⟨y,_,I.Nu (its':=a.eraseIdx k) d e ?_ (r.eraseIdx k) ?_,c,q⟩
 ·show a.toArray.eraseIdxIfInBounds k=(a.eraseIdx k).toArray;rw[List.eraseIdxIfInBounds_toArray]
 ·have:=B9 D k;lia
noncomputable def Em:R2:=λx y H Q=>∃l b c a,x=.ref l/\y=.ref b/\H l=some (.lst c)/\H b=some (.lst a)/\c.length+a.length<=PK/\∀p,H p=none->Q (.ref p) (upd H p (.lst (c++a)))
theorem jq:dU X (zAV .Add) Em:=by
 intro f s σ H x y v u Q I o g h;obtain⟨l,b,w,E,rfl,rfl,t,i,C,q⟩:=h;cases o;cases g;obtain⟨z,c,n,r,A,e⟩:=I.A7 t;obtain⟨B,a,D,p,k,m⟩:=I.A7 i;refine PySem.P.add_list e m ?_ (by ext);have j:c.toArray++a.toArray=(c++a).toArray:=by simp
 rw[j];exact⟨.ref _,_,I.JK (r.append p) (by ext),rfl,q _ I.fresh⟩
noncomputable def Ny:R2:=λx y H Q=>∃l k a,x=.ref l/\y=.int k/\H l=some (.lst a)/\-(2 ^ 63)<=k/\k < 2 ^ 63/\a.length * k.toNat<=PK/\ ∀p,H p=none->Q (.ref p) (upd H p (.lst (replicate k.toNat a).flatten))
theorem len_rep {α:Type}(xs:List α)(k:Nat):(replicate k xs).flatten.length=k * xs.length:=by simp
theorem zI:dU X (zAV .Mult) Ny:=by
 intro o s σ H x y v u Q I J w h;obtain⟨l,k,L,rfl,rfl,E,D,G,A,q⟩:=h;cases J;obtain⟨t,rfl⟩:=w;obtain⟨z,b,n,r,M,e⟩:=I.A7 E;have j:b.toArray.size * k.toNat<=PK:=by ext
 have i:¬ b.toArray.size * k.toNat > (2 ^ 63 - 1) / 8:=by
  have:PK<=(2 ^ 63 - 1) / 8:=by decide
  lia
 have f:¬ (!Builtin.List.listFitsIndex k)=true:=by rw[fitsIndex_both D G];simp
 have d:¬ Builtin.List.listTooLong (b.toArray.size * k.toNat)=true:=by rw[Nv j];simp
 have g:foldl (λK p=>K++p) #[] (replicate (if b.toArray.isEmpty=true then 0 else k.toNat) b.toArray)=(replicate k.toNat b).flatten.toArray:=by
  have C:=λm=>by have:=foldl_rep b m [];symm
  rw[C];cases b with| nil=>simp| cons a N=>rfl
 refine zCV (by decide) ⟨_,e,rfl⟩ (λB=>typeIs_int B k t) noFill_list_mul F.fills_int_mul F.slot_int_rmul repeat_list F.slot_int_index.lookup (zBP F.slot_int_rmul rfl F.entry_int_rmul (F.args_int_rmul_2 _ _) (int___rmul___int_list k t l b.toArray n) ⟨e,rfl,⟨_,e,rfl⟩,zBP F.slot_list_mul ⟨_,e,rfl⟩ F.entry_list_mul (F.args_list_mul_2 _ _) (AutoListH.list___mul___list_int_3 l b.toArray n k t f i d) ⟨e,?_⟩⟩);rw[g];exact⟨.ref _,_,I.JK (r.rep k.toNat) (by rw[len_rep,Nat.mul_comm]; exact A),rfl,q _ I.fresh⟩
end
section
variable {prog:zAA}{w:zAE}{A:zAI}{E:zzE}{s:VV}
end
section
variable {X:Cx}
end
end L2
namespace Xf
open PySem PySem.W PySem.Calls PyProof.Rows
theorem zJ:∀(ns:List Int) (vs:List Value),WellAll P h vs (ns.map WData.int)->zBI vs ns:=by intro ns;induction ns with| nil=> intro vs w;cases w;exact .nil| cons n ns c=> intro vs w;cases w with| cons a b=> cases a;exact .cons _ _ (c _ b)
theorem K7 {l:OpenLaw}(v:l.most=some n)(c:l.row.toRowW.claim.pre args=true) (i:WellAll P h b args) : ∃a vs ns,b=[Value.ref a]/\args=[WData.list (ns.map WData.int)]/\h.get? a=some { cls:=.type "list",data:=.seq vs.toArray }/\zBI vs ns/\ns.length<=n:=by
 have g:=(pre_splitW c).1;have k:l.pre.holds [] _=true:=(pre_splitW c).2;obtain⟨d,r,rfl,s,t⟩:=hasAllW_cons g;obtain rfl:=hasAllW_nil t;obtain⟨u,rfl,q⟩:=hasW_list s;obtain⟨ns,rfl⟩:=items_int q;have f:ns.length<=n:=by
  have j:(WTm.not (.lt (.lit (.int n)) (.len (.arg 0)))).holds [] { args:=[.list (ns.map .int)] }=true:=by have j:=(holds_andW k).1;ext
  have w:=condW_of j rfl;ext
 cases i with| cons p o=> cases o;cases p with| list m e=>exact⟨_,_,ns,rfl,rfl,m,zJ ns _ e,f⟩
theorem K8 (l:OpenLaw)(a:List WData):l.row.toRowW.claim.post a (.bool true) a=true:= postW_of (show WShape.has [] _ _=true by rfl) (show (WTm.eq _ _).value [] _=some _ from w_eq_bool rfl w_lit) rfl
theorem GP {l:OpenLaw}{n:Nat}{q:zAA}{loose:List Str}{XP:(Str->Option Value)->Heap->Prop}{YP:zAE->Heap->Prop}{d:DefRec}(P:l.most=some n) (p:d.params.defaults=[])(call:∀(w:zAE) (t b:VV) (m u:Str->Option Value) (g:M1) (o:Obj) (z k c:Value) (a:M1) (vs:List Value) (ns:List Int), Ground q loose [] XP w t m u b.heap->YP w b.heap-> b.heap.get? g=some o->o.data=.func (docDef d.name d.params d.body d.scope z k c)->b.heap.CodeRec k d.name->m d.name=some (.ref g)-> b.heap.get? a=some { cls:=.type "list",data:=.seq vs.toArray }->zBI vs ns->ns.length<=n->b.gens=#[]-> zBK (zAD l.prog w) zDW (.call (.ref g) ⟨[.ref a],[]⟩) (λr s'=>r=.ok (.ret (.bool true))/\OldK b.heap s'.heap/\s'.os=b.os/\zCN s'.gens) b) : WalkO q loose XP YP l.row.toRowW d [] (λf vs=>PySem.call f vs):=by intro w t b m u G Y g o z k c J F L E s D x I C B R i A N y O;obtain rfl:J=.none:=Dflts.none D p;obtain rfl:F=.none:=Dflts.noKw D;obtain⟨a,vs,ns,rfl,rfl,j,e,h⟩:=K7 P i y;refine enter_call (zBW (call w t b m u g o z k c a vs ns G Y L (fd_plain E) s x j e h I) λr s' M=>?_);obtain⟨rfl,K,H,Q⟩:=M;exact⟨.inl ⟨.bool true,.bool true,[],rfl,λ_=>rfl,.bool true,K8 l _,(by simp)⟩,K,H,Q⟩
section
variable {prog:zAA}{w:zAE}{A:zAI}{E:zzE}{s:VV}{K:zBQ}
end
end Xf
namespace L2
open PySem PySem.Spec PyProof.Rows
theorem vH:∀{vs:List Value} {ns:List Int},zBI vs ns->Vals (ns.map V.int) vs| _,_,.nil=>.nil| _,_,.cons n t h=>.cons ⟨t,rfl⟩ (vH h)
noncomputable def Nz (H:Hp):Prop:=∀b,H b=none\/∃o a,H b=some (.jo o (.lst a))
theorem NB {K:zzA}(Q:K.In c.heap) (A:c.heap.Ns zAB t) (f:c.heap.Ns zDK R) (hbb:∀x:Str,x≠"__name__"->R x=zCM x) (y:c.heap.NoLimit) (hg:c.gens=#[])(I:c.heap.get? a=some { cls:=.type "list",data:=.seq vs.toArray }) (U:zBI vs ns) (Z:ns.length<=PK) (hr:cN k zDW)(F:∀base:Heap,K.In base->base.Ns zAB t->aL P w K t base CX k J X [x] sp) (l:∀(s:VV) (u:Value),zCY s X ⟨[u],[]⟩ [(x,u)])(M:∀H:Hp,Nz H->ay K H a (ns.map V.int)->sp [.ref a] H (λv _=>v=.bl true) λ_ _ _=>False)(L:∀H e s',CX [] H c (λ_ _ _=>False) e s'->False) : zBK (zAD P w) zDW (.call (.ref J) ⟨[.ref a],[]⟩) (λr s'=>r=.ok (.ret (.bool true))/\OldK c.heap s'.heap/\s'.os=c.os/\zCN s'.gens) c:=by
 have S:=vH U;have C:=U.length;have i:∀H:Hp,Nz H->ay K H a (ns.map V.int)->fW P w H c.heap->(∀b,H b≠none->b=a)->(H a≠none->K.lookup a=none)-> zBK (zAD P w) zDW (.call (.ref J) ⟨[.ref a],[]⟩) (λr s'=>r=.ok (.ret (.bool true))/\OldK c.heap s'.heap/\s'.os=c.os/\zCN s'.gens) c:=by intro H T hS E hA hK;have g:∀{b:M1} {o:Obj},c.heap.get? b=some o->H b=none->(vv c.heap H).get? b=some o:=λe n=>Na e n;have j:∀{b:M1} {m:Str->Option Value},c.heap.Ns b m->(vv c.heap H).Ns b m:=λ{b m} ⟨o,es,ep,e,d,r⟩=>⟨o,es,ep,(by grind),d,r⟩;have p:=λb o e=>g (Q b o e) (by grind);have hM:Mod K t (vv c.heap H):=⟨p,j A,(by grind),let ⟨mc,h1,h2⟩:=y; ⟨mc,j h1,h2⟩⟩;have e0:yG P w K t (vv c.heap H) zDW [] c H:=⟨rfl,hM,λb o e=>QU e,Nat.le_of_eq (KN _ _),trivial,λb f=>absurd (show b∈([]:List M1) from f) (by simp),E,.of_eq hg⟩;refine zBW ((F _ p (j A)).run zDW [] c H _ [.ref a] [.ref a] _ _ hr e0 (l c (.ref a)) (.cons rfl .nil) (M H T hS)) λr s' h=>?_;cases r with| error e=>exact (L H e s' h).elim| ok fl=> cases fl with| next=>exact False.elim h| brk=>exact False.elim h| cont=>exact False.elim h| ret u=> obtain⟨v,H',os,D,Y,B,r',q⟩:=h;have q':v=.bl true:=q;subst q';obtain rfl:u=Value.bool true:=r';refine⟨rfl,OldK.of_keep λb o e=>?_,os,D⟩;cases q:H b with| none=>exact Y.keep b o e q (by intro z; exact absurd (show b∈([]:List M1) from z) (by simp)) (by simp)| some u=>
     rcases T b with z | ⟨ob,xs,z⟩;·rw[q] at z; cases z
     ·have z2:=Y.ng b ob _ z;obtain⟨W,_⟩:=E b _ z;obtain⟨e2,_⟩:=B b _ z2;rw[e] at W; cases W;exact e2
 cases N:K.lookup a with| some o=> have e:=Q a o N;rw[I] at e;cases e;refine i (λ_=>none) (λ_=>.inl rfl) (.inr ⟨_,vs.toArray,_,N,rfl,rfl,rfl,by rw[zBf,C]; exact Z,by simpa using S⟩) (λb u z=>by have G:=z; cases G) (λb z=>absurd rfl z) λz=>absurd rfl z| none=>
  refine i (λb=>if b=a then some _ else none) (λb=>?_) (.inl (.inr ⟨{ cls:=.type "list",data:=.seq vs.toArray },v6 rfl⟩)) (λb u z=>?_) (λb z=>?_) λ_=>N
  ·by_cases f:b=a;·exact .inr ⟨_,_,v6 f⟩
   ·exact .inl (xI f)
  ·by_cases f:b=a
   ·have G:=(v6 f).symm.trans z;cases G;subst f;exact⟨I,by rw[yB]; exact Z,vs,_,S,I⟩
   ·have G:=(xI f).symm.trans z;cases G
  ·by_cases f:b=a;·exact f
   ·exact absurd (xI f) z
theorem Q_ {l:PySem.W.OpenLaw}{n k:Nat}{q:zAA}{loose:List Str}{XP:(Str->Option Value)->Heap->Prop}{YP:zAE->Heap->Prop}{d:DefRec}{K:Params->zzA}{CX:zAE->uT}{sp:zAE->Sp}{x:Str}(C:l.most=some n) (A:n<=PK) (t:d.params.defaults=[]) (R:cN k zDW)(I:∀(w:zAE) (h:Heap),YP w h->(K w.params).In h)(F:∀(w:zAE) (i:Str->Option Value) (m:M1) (h:Heap),(K w.params).In h->h.Ns zAB i->i d.name=some (.ref m)-> ∃z:zAF,(∀(s:VV) (u:Value),zCY s z ⟨[u],[]⟩ [(x,u)])/\ ∀base:Heap,(K w.params).In base->base.Ns zAB i->aL l.prog w (K w.params) i base (CX w) k m z [x] (sp w))(p:∀(w:zAE) (H:Hp) (a:M1) (ns:List Int),ns.length<=n->Nz H->ay (K w.params) H a (ns.map V.int)->sp w [.ref a] H (λv _=>v=.bl true) λ_ _ _=>False)(y:∀(w:zAE) (H:Hp) (s:VV) (e:Value) (s':VV),CX w [] H s (λ_ _ _=>False) e s'->False) : PySem.W.WalkO q loose XP YP l.row.toRowW d [] (λf vs=>PySem.call f vs):=by refine Xf.GP C t λw W Q i X m o Z S D a vs ns G Y T U M r j g c L=>?_;have B:=I w _ Y;obtain⟨z,N,E⟩:=F w i m _ B G.T.g r;exact NB B G.T.g G.T.b G.T.builtins G.T.nolimit L j g (zAv c A) R E N (λH J P=>p w H a ns c J P) λH e s'=>y w H Q e s'
def inClass (s:zAL)(j:Nat):zAL:=match s with| .ClassDef _ _ _ a _ _ _ _ _ _ _=>a.getD j (.Pass ⟨0,0,0,0⟩)| _=>.Pass ⟨0,0,0,0⟩
def gA (s:zAL):Arguments:=match s with| .FunctionDef _ a _ _ _ _ _ _ _ _=>a| _=>{ posonlyargs:=[],args:=[],vararg:=none,kwonlyargs:=[],kw_defaults:=[],kwarg:=none,defaults:=[] }
def fq (s:zAL):List zAL:=match s with| .FunctionDef _ _ b _ _ _ _ _ _ _=>b| _=>[]
def aE (s:zAL):zCT:=match s with| .FunctionDef _ _ _ _ _ _ a _ _ _=>a| _=>{ kind:=.function,names:=[],isGenerator:=false,isCoroutine:=false }
abbrev bg:uT:=λ_ _ _ _ _ _=>False
abbrev E0:XK:=λ_ _ _=>False
theorem aM:Passes bg X E0:=λ_ _ _ _ _ _ _ h=>h.elim
structure nR (K:zzA)(x qual:Str)(st:zAL)(f:M1)(fd:zAF):Prop where
 ex:∃(oc:Value) (od:Option M1) (kV doc pm:Value) (an:Option M1) (cdv ct:Value) (osl:Array (Option Value)), fd=PySem.W.fnOf x qual (gA st) (fq st) (aE st) .none kV doc pm an cdv ct/\K.lookup f=some ⟨oc,od,.func fd,osl⟩/\PySem.W.codeIn K cdv qual=true
 kp:PySem.W.keepIn K (.ref f)=true
section
variable {P:zAA}{w:zAE}{K:zzA}{mg:Str->Option Value}{base:Heap}
theorem nR.ok {st:zAL}(F:nR K x b st f j)(S:aN N ps (aE st))(e:∀vs H Q E,sp vs H Q E->vs.length=ps.length)(d:∀(c:Value) (A:zAI) (a:List Env) (s:VV) (H:Hp) (vs:List V) (Q:VK) (E:XK),cN k (A.deeper (zDL b (aE st) s.heap.objs.size f c))->sp vs H Q E-> ∃t,sE (vG bg P w K mg base N b (aE st) f c A a s H E).O9 (fq st) t/\t { nx:=λ_ H'=>Q .bq H',rt:=Q } (start N vs) H):aL P w K mg base bg (k+1) f j ps sp:=by obtain⟨v,r,kV,m,p,y,c,u,o,rfl,l,g⟩:=F.ex;refine Pa l g S e λA a s H vs Q E n i=>?_;obtain⟨t,h,q⟩:=d c A a s H vs Q E n i;exact⟨t,h.O9,q⟩
theorem nR.binds {st:zAL}(F:nR K x a st f i)(h:∀(kV b d:Value) (e:Option M1) (c g:Value) (us:List Value),us.length=ps.length->zDH (PySem.W.fnOf x a (gA st) (fq st) (aE st) .none kV b d e c g) ⟨us,[]⟩=pure (ps.zip us)):Binds K i ps []:=by obtain⟨n,l,kV,b,d,e,c,g,j,rfl,m,k⟩:=F.ex;exact .all (h kV b d e c g)
theorem Tu {st:zAL}{kV d g b h:Value}(l:K.lookup f=some ⟨j,od,.func (PySem.W.fnOf x a (gA st) (fq st) (aE st) .none kV d g i b h),e⟩)(c:PySem.W.codeIn K b a=true) (k:PySem.W.keepIn K (.ref f)=true):nR K x a st f (PySem.W.fnOf x a (gA st) (fq st) (aE st) .none kV d g i b h):=⟨⟨j,od,kV,d,g,i,b,h,e,rfl,l,c⟩,k⟩
end
theorem iG (a:cN k A):A.units+1 < zAN:=zCc (by simp) a.units
theorem K9 (h:n<=1000):n < PK:=zCc h (by decide)
section
variable {X:Cx}
theorem pv (i:Nat){a:Pos}(c:X.N[i]?=some x:=by rfl)(d:O4 X.env.scope x:=by first | exact Or.inl rfl | exact Or.inr (Or.inl rfl) | exact Or.inr (Or.inr rfl))(e:(x == ("__debug__":Str))=false:=by decide)(b:(x == ("__classdict__":Str))=false:=by decide):PE X (.Name x a) (cF i):=SR c d e b
end
noncomputable def ah (H H':Hp):Prop:=∀b o,H b=some o->H' b=some o
theorem ah.refl (H:Hp):ah H H:=λ_ _ h=>h
theorem ah.trans (a:ah H d)(b:ah d e):ah H e:=λc o h=>b c o (a c o h)
theorem ah.free (e:ah H H')(h:H' l=Option.none):H l=Option.none:=by cases q:H l with| none=>rfl| some o=> rw[e l o q] at h;symm
theorem ah.seq {K:zzA}(e:ah H H')(h:ay K H a xs):ay K H' a xs:=by
 rcases h with (h | ⟨o,h⟩) | h;·exact .inl (.inl (e _ _ h))
 ·exact .inl (.inr ⟨o,e _ _ h⟩)
 ·exact .inr h
end L2
namespace TB
open PySem PySem.Spec PySem.W PyProof.Rows
section
variable {prog:zAA}{w:zAE}{A:zAI}{E:zzE}{s:VV}
theorem sQ (h:(zAQ prog w).is k v=true):∃t,v=.int k t:=Value.isInt_shape h
theorem K_ {k f:Bool}{Q:Bool->VV->Prop}:∀{x y:List Int} {xs ys:List Value} (i:Nat),ItemsAre (zAQ prog w) x xs->ItemsAre (zAQ prog w) y ys->f=decide (xs.length < ys.length)->Q (HT.lexLt x y) s->KatLex prog w A k f Q (xs.zip ys) i s
 | [],[],_,_,i,.nil,.nil,d,h=>by subst d;symm| [],_::_,_,_,i,.nil,.cons _ _,d,h=>by subst d;symm| _::_,[],_,_,i,.cons _ _,.nil,d,h=>by subst d;symm| a::x,b::y,_,_,i,.cons j n,.cons g m,d,h=>by
  refine kat_cons ((zAQ prog w).eqBool j g ?_);obtain⟨t,rfl⟩:=sQ j;obtain⟨u,rfl⟩:=sQ g;rw[HT.eV] at h;by_cases c:a=b
  ·rw[j2 c];rw[v6 c] at h;exact kat_yes (K_ _ n m (by ext) h)
  ·rw[zAx c];rw[xI c] at h;refine kat_no ?_;cases e:(k&&i == 0) with| true=>exact oneLt_int h| false=>exact kat_one _ _ (lt_int h)
theorem Tv {x y:List Int}{a b:M1}{j:Bool}{Q:Bool->VV->Prop}(i:zAH (zAQ prog w) s.heap x a)(f:zAH (zAQ prog w) s.heap y b)(h:Q (HT.lexLt x y) s):zAC (zAD prog w) A (keyLt' (tuples' j) (.ref a) (.ref b)) Q E s:=by obtain⟨o,m,n,g,_,l,k⟩:=i;obtain⟨t,r,q,d,_,c,e⟩:=f;exact kat_lt g l d c (K_ 0 k e (by simp) h)
theorem lex_irrefl:∀x:List Int,HT.lexLt x x=false| []=>rfl| a::x=>by rw[HT.eV,v6 rfl,lex_irrefl x]
theorem lex_trans:∀{x y z:List Int},HT.lexLt x y=true->HT.lexLt y z=true->HT.lexLt x z=true
 | [],[],_,h,_=>by symm| [],_::_,[],_,h=>by symm| [],_::_,_::_,_,_=>rfl| _::_,[],_,h,_=>by cases h| _::_,_::_,[],_,h=>by symm| a::x,b::y,c::z,e,f=>by
  rw[HT.eV] at e f ⊢;by_cases g:a=b
  ·rw[v6 g] at e;by_cases i:b=c
   ·rw[v6 i] at f;rw[v6 (g.trans i)];exact lex_trans e f
   ext
  grind
theorem qH:∀x y:List Int,x≠y->HT.lexLt x y=true\/HT.lexLt y x=true
 | [],[],h=>absurd rfl h| [],_::_,_=>.inl rfl| _::_,[],_=>.inr rfl| a::x,b::y,h=>by
  rw[HT.eV,HT.eV];by_cases e:a=b
  ·rw[v6 e,v6 e.symm];exact qH x y λz=>h (by ext)
  grind
noncomputable def rank (ks:zzB)(i:Nat):Nat:=ks.countP λk=>HT.lexLt k (ks.getD i [])
theorem xB (p:i < ks.length)(n:j < ks.length)(h:HT.lexLt (ks.getD i []) (ks.getD j [])=true):rank ks i < rank ks j:=by
 unfold rank;have d:ks.getD i []∈ks:=by ext
 generalize ks.getD i []=a at *;generalize ks.getD j []=b at *;clear p n;induction ks with| nil=>ext| cons k ks m=>
  have f:∀l:List _,l.countP _<=l.countP λk=>HT.lexLt k b:=λl=>List.countP_mono_left λx _ o=>lex_trans o h;rw[List.countP_cons,List.countP_cons];rcases u1.mp d with e | d
  ·rw[<-e,lex_irrefl];grind
  ·have:=m d;by_cases c:HT.lexLt k a=true;·rw[c,lex_trans c h]; ext
   grind
theorem En (f:ks.Nodup)(a:i < ks.length)(b:j < ks.length):decide (rank ks i < rank ks j)=HT.lexLt (ks.getD i []) (ks.getD j []):=by
 by_cases e:i=j
 ·subst e;rw[lex_irrefl];simp
 ·have g:ks.getD i []≠ks.getD j []:=λz=>by rw[y2,y2,y8 a,y8 b] at z;exact e ((List.getElem_inj f).mp z)
  rcases qH _ _ g with h | h
  ·rw[h];exact j2 (xB a b h)
  ·have k:=xB b a h;have:HT.lexLt (ks.getD i []) (ks.getD j [])=false:=by cases c:HT.lexLt _ _ with| false=>rfl| true=> have:=lex_trans c h;rw[lex_irrefl] at this;ext
   grind
theorem NC (d:ks.Nodup)(i j:Nat)(a:i < ks.length)(b:j < ks.length)(h:rank ks i=rank ks j):i=j:=by
 by_cases e:i=j;·symm
 ·have c:ks.getD i []≠ks.getD j []:=λz=>by rw[y2,y2,y8 a,y8 b] at z;exact e ((List.getElem_inj d).mp z)
  rcases qH _ _ c with q | q;·have:=xB a b q; ext
  ·have:=xB b a q; ext
abbrev rf (p:M1 × List Int):Value:=.ref p.1
theorem Eo:∀ps:zzD,(∀p∈ps,zAH (zAQ prog w) s.heap p.2 p.1)->(∀p∈ps,p.2≠[])->∃b,KatTups s.heap (ps.map rf) b/\b.length=ps.length/\∀v∈b,∃k t,v=Value.int k t
 | [],_,_=>⟨[],KatTups.nil,rfl,λv h=>by ext⟩| p::ps,f,C=>by
  obtain⟨b,g,x,z⟩:=Eo ps (λq D=>f q (by ext)) (by grind);obtain⟨o,a,n,i,m,u,d⟩:=f p zAc;obtain⟨k,r,e⟩:∃k r,p.2=k::r:=by cases c:p.2 with| nil=>ext| cons k r=>simp
  rw[e] at d;obtain⟨l⟩:=a;cases d with| @cons _ v _ y j B=> obtain⟨t,rfl⟩:=sQ j;refine⟨.int k t::b,KatTups.cons i m u (by rfl) g,by ext,λv h=>?_⟩;grind
set_option maxHeartbeats 1000000 in theorem uV {a:M1}{n:Nat}{ps:zzD}{P:PySem.Fin->VV->Prop}(M:s.heap.get? a=some (zAP "list" (ps.map rf).toArray n))(G:∀p∈ps,zAH (zAQ prog w) s.heap p.2 p.1)(hne:∀p∈ps,p.2≠[])(nd:(ps.map (·.2)).Nodup)(h64:ps.length < 64)(h:∀(h':Heap) (I:zzD) (c:Nat),(∀b o,b≠a->s.heap.get? b=some o->h'.get? b=some o)->h'.get? a=some (zAP "list" (I.map rf).toArray c)->I.Perm ps->I.Pairwise (λp q=>HT.lexLt p.2 q.2=true)->P (.done (.ret .none)) { s with heap:=h' }) : zAC (zAD prog w) A (Builtin.«list.sort» ⟨[.ref a],[]⟩) P E s:=by
 have ha:a < s.heap.objs.size:=vT M;obtain⟨Y,K⟩:∃Y,(s.heap.update a (mapSeq λ_=>(#[]:Array Value))).get? a=some (zAP "list" #[] Y):=⟨_,get?_update_seq M λ_=>#[]⟩;have hz:(ps.map rf).length=ps.length:=yB _;rw[list_sort_plain];refine yA (listItems_at M rfl ?_);refine yA (listUpdate_at M rfl ?_ (by rw[zBf,hz,u4]; lia) (zAb _));refine yA (seqEpoch_at K rfl ?_);refine yA (wpAny_newTuple ?_ (by show (ps.map rf).length<=_; rw[hz,u4]; lia));refine yA (zDC ?_ (zAb _));refine zBg ?_;have H:∀b o,b≠a->s.heap.get? b=some o->(((s.heap.update a (mapSeq λ_=>(#[]:Array Value))).push (zAP "tuple" (ps.map rf).toArray 0)).push (zAP "list" #[] 0)).get? b=some o:=λb o U e=>y1 _ (y1 _ ((zA6 _ _ (Ne.symm U)).trans e));have u:(((s.heap.update a (mapSeq λ_=>(#[]:Array Value))).push (zAP "tuple" (ps.map rf).toArray 0)).push (zAP "list" #[] 0)).get? a=some (zAP "list" #[] Y):=y1 _ (y1 _ K);have f:∀p∈ps,zAH (zAQ prog w) (((s.heap.update a (mapSeq λ_=>(#[]:Array Value))).push (zAP "tuple" (ps.map rf).toArray 0)).push (zAP "list" #[] 0)) p.2 p.1:=λp hp=>iT (G p hp) λo e=>H _ o (λz=>by obtain⟨o',_,_,N,hc',_⟩:=G p hp;rw[z,M] at N;cases N;exact absurd hc' (show ¬ (type "list"=type "tuple") by decide)) e;show zAC (zAD prog w) A _ P E { s with heap:=((s.heap.update a (mapSeq λ_=>(#[]:Array Value))).push (zAP "tuple" (ps.map rf).toArray 0)).push (zAP "list" #[] 0) };generalize ((s.heap.update a (mapSeq λ_=>(#[]:Array Value))).push (zAP "tuple" (ps.map rf).toArray 0)).push (zAP "list" #[] 0)=y at *;dsimp only;have R:∀(d:zzD),d.length=ps.length->d.Perm ps->d.Pairwise (λp q=>HT.lexLt p.2 q.2=true)->P (.done (.ret .none)) { s with heap:=y.update a (mapSeq λ_=>(d.map rf).toArray) }:=λd _ pm pw=>by obtain⟨c2,hc2⟩:∃c2,(y.update a (mapSeq λ_=>(d.map rf).toArray)).get? a=some (zAP "list" (d.map rf).toArray c2):=⟨_,get?_update_seq u λ_=>(d.map rf).toArray⟩;exact h _ d c2 (λb o U e=>(zA6 _ _ (Ne.symm U)).trans (H b o U e)) hc2 pm pw
 by_cases F:(ps.map rf).toArray.size < 2
 ·rw[v6 F,v6 F];refine yA (y4 ?_);rw[StateT.run_pure];refine yA (y4 ?_);dsimp only;have arr:(arrOf (SortSt.mk' general' ((ps.map rf).toArray.zip (ps.map rf).toArray) #[] 7 none)).map (·.2)=(ps.map rf).toArray:=by show ((ps.map rf).toArray.zip (ps.map rf).toArray).map (·.2)=_;apply Array.toList_inj.mp;simp only [Array.toList_map,Array.toList_zip];exact List.map_snd_zip (y6 _)
  rw[arr];refine yA (seqEpoch_at u rfl ?_);refine yA (listUpdate_at u rfl ?_ (zAb _) (by show (ps.map rf).toArray.size<=_; lia));simp only [bne_self_eq_false,zBa,zC2];refine y4 (R ps rfl (List.Perm.refl _) ?_);have V:ps.length < 2:=by simpa using F
  match ps,V with| [],_=>exact List.Pairwise.nil| [p],_=>exact List.pairwise_singleton _ _
 ·rw[xI F,xI F];have V:2<=ps.length:=by simpa using F
  obtain⟨fs,ft,fl,fi⟩:=Eo (prog:=prog) (w:=w) (s:={ s with heap:=y }) ps f hne;refine yA (kat_kind (T:=.type "int") ft (by lia) (λv hv=>?_) (by decide) ?_)
  ·obtain⟨k,t,rfl⟩:=fi v hv;exact Looks.now
  have cmp:∀i j (C:Bool->VV->Prop),i < ps.length->j < ps.length->C (decide (rank (ps.map (·.2)) i < rank (ps.map (·.2)) j)) { s with heap:=y }->kas_ask prog w A (tuples' ((type "int") != type "tuple")) (ps.map rf) i j C { s with heap:=y }:=λi j C l D hC=>by
   rw[En nd (by simpa using l) (by simpa using D)] at hC;unfold kas_ask;have g:∀i (l:i < ps.length),(ps.map rf).getD i Value.none=.ref ps[i].1/\(ps.map (·.2)).getD i []=ps[i].2:=λi l=>by simp [l]
   rw[(g i l).1,(g j D).1];rw[(g i l).2,(g j D).2] at hC;exact Tv (f _ (zCa l)) (f _ (zCa D)) hC
  obtain⟨p,ep,Z,ZN,S⟩:=M9 (r:=rank (ps.map (·.2))) (n:=ps.length) (zBk V) λi j l D=>NC nd i j (by simpa using l) (by simpa using D);have ask:(kas_sort (ps.map rf).length).kasWp (kas_ask prog w A (tuples' ((type "int") != type "tuple")) (ps.map rf)) (λq O=>q=p/\O={ s with heap:=y }) { s with heap:=y }:=by rw[hz];exact HP (r:=rank (ps.map (·.2))) cmp _ (QT (zBk V)) ⟨ep,rfl⟩
  refine yA (zB3 (kat_run (Q:=λB O=>arrOf B=p.map (kas_item ((ps.map rf).toArray.zip (ps.map rf).toArray))/\failedOf B=none/\O={ s with heap:=y }) rfl (by ext) (by ext) (λq B O a1 a2 a3 a4=>⟨by rw[a2,a4.1],a3,a4.2⟩) ask) ?_ λ_ _ e=>e);rintro⟨⟨⟩,B⟩ O ⟨X,hf,rfl⟩;dsimp only;have J:=kat_snds (vs:=ps.map rf) rfl X;have m:∀i∈p.toList,i < ps.length:=λi l=>by have:=S.mem_iff.mp (zCh.mp l);simpa using this
  have L:(p.toList.map λi=>(ps.map rf).getD i Value.none)=(picked ps p.toList).map rf:=(iF rf ps Value.none p.toList m).symm;rw[J,L];have pl:(picked ps p.toList).length=ps.length:=by have:=zAz length (iF (λp=>p) ps (default:M1 × List Int) p.toList m);simpa [Z] using this
  refine yA (seqEpoch_at (s:={ s with heap:=y }) u rfl ?_);refine yA (listUpdate_at (s:={ s with heap:=y }) u rfl ?_ (zAb _) (by show ((picked ps p.toList).map rf).toArray.size<=_; simp [pl,u4]; lia));rw[hf];simp only [bne_self_eq_false,zBa,zC2];refine y4 (R (picked ps p.toList) pl ?_ ?_)
  ·have e2:picked ps (range ps.length)=ps:=by have:=iF (λp=>p) ps (default:M1 × List Int) (range ps.length) λq W=>zAk.mp W;rw[List.map_id'] at this;rw[this];refine zCb (by grind) λi h1 F=>?_;simp [F]
   have pm:p.toList.Perm (range ps.length):=by simpa using S.toList
   have:=pm.filterMap λq:Nat=>ps[q]?;show (picked ps p.toList).Perm ps;rw[<-e2];conv=>lhs; rw[e2]
   exact this
  ·have e3:=iF (λp=>p) ps (default:M1 × List Int) p.toList m;rw[List.map_id'] at e3;rw[e3,zAh,List.pairwise_iff_getElem];intro i j l D hij;have hi':i < p.size:=by simpa using l
   have hj':j < p.size:=by simpa using D
   have lt:=ZN.lt' hij (show j < ps.length by ext);have gi:p.getD i 0=p.toList[i]:=by simp [getD,hi']
   have gj:p.getD j 0=p.toList[j]:=by simp [getD,hj']
   rw[gi,gj] at lt;have l1:=m _ (zCa l);have l2:=m _ (zCa D);have:=En nd (i:=p.toList[i]) (j:=p.toList[j]) (by simpa using l1) (by simpa using l2);rw[j2 lt] at this;have g:∀q (W:q < ps.length),((ps.map λp=>p).getD q (default:M1 × List Int)).2=(ps.map (·.2)).getD q []:=λq W=>by simp [W]
   rw[g _ l1,g _ l2];exact this.symm
theorem vI {α β:Type}(f:α->β):∀{ps:List α} {l:List β},l.Perm (ps.map f)->∃c:List α,c.Perm ps/\l=c.map f
 | [],l,h=>⟨[],List.Perm.refl _,by ext⟩| p::ps,l,h=>by
  have d:f p∈l:=h.mem_iff.mpr (by simp);obtain⟨a,b,rfl⟩:=List.append_of_mem d;have g:(a++b).Perm (ps.map f):=by have:=List.perm_middle.symm.trans h;ext
  obtain⟨c,i,e⟩:=vI f g;refine⟨c.take a.length++p::c.drop a.length,?_,?_⟩
  ·refine List.perm_middle.trans (List.Perm.cons p ?_);ext
  ·rw[v4,zAw,map_take,List.map_drop,<-e];simp
theorem gr.calm {K:Type}[DecidableEq K]{knd:KeyKind prog w K}{ps:List (M1 × List K)}(x:gr knd h S ps):∃o ep t,h.get? S=some o/\Calm w o (ps.map (ent knd)).toArray ep t/\(ps.map (·.2)).Nodup:=by obtain⟨o,ep,t,e,a,c,H,b,i,d⟩:=x;refine⟨o,ep,t,e,⟨a,c,?_,H.plain.rise,b.1,b.2⟩,d⟩;have f:=H.size;have g:=H.room;simp only [SetTable.fits,SetTable.fill,H.plain.HE,zAp,beq_iff_eq,zAu];ext
set_option maxHeartbeats 1000000 in theorem zK {S:M1}{ps:zzD}{Q:zzE}(T:A.handled=none)(L:gr (zAQ prog w) s.heap S ps)(v:∀p∈ps,zAH (zAQ prog w) s.heap p.2 p.1)(F:∀p∈ps,p.2≠[])(M:ps.length < 64)(h:∀(h':Heap) (n:Nat) (l:M1) (a:zzD) (c:Nat),(∀b o,s.heap.get? b=some o->h'.get? b=some o)->s.heap.objs.size<=l->h'.get? l=some (zAP "list" (a.map rf).toArray c)->a.Perm ps->a.Pairwise (λp q=>HT.lexLt p.2 q.2=true)->Q (.ref l) { s with heap:=h',toks:=n }) : zAC (zAD prog w) A (call (.builtin "sorted") [.ref S]) Q E s:=by
 obtain⟨o,R,t,K,C,O⟩:=L.calm;refine Calls.call_function_entry kind_sorted plain_sorted entry_sorted (args_sorted1 _) ?_;unfold Builtin.«sorted»;refine yA (m:=checkCount "sorted" 1 1 _) (y4 ?_);refine yA (GN (by simp [T]) K C (by rw[u4]; simp; lia) λj n V g x U=>?_);obtain⟨i,u,N⟩:=vI (ent (zAQ prog w)) (by simpa using BR w S R (ps.map (ent (zAQ prog w))).toArray);have B:V=i.map rf:=by rw[U,N,zAa];rfl
 subst B;have ql:i.length=ps.length:=u.length_eq;refine yA (zDC ?_ (by rw[yB,u4]; lia));have H:(j.push (zAP "list" (i.map rf).toArray 0)).get? j.objs.size=some (zAP "list" (i.map rf).toArray 0):=u3 _ rfl;have f:∀b o,s.heap.get? b=some o->(j.push (zAP "list" (i.map rf).toArray 0)).get? b=some o:=λb o e=>y1 _ (g b o e);have r:s.heap.get? j.objs.size=none:=by cases e:s.heap.get? j.objs.size with| none=>rfl| some Z=>exact absurd (vT (g _ _ e)) (zBl _)
 show zAC _ _ _ _ _ { s with heap:=j.push (zAP "list" (i.map rf).toArray 0),toks:=n };have k:∀p∈i,zAH (zAQ prog w) (j.push (zAP "list" (i.map rf).toArray 0)) p.2 p.1:=λp D=>iT (v p (u.mem_iff.mp D)) λo e=>f _ o e;generalize j.push (zAP "list" (i.map rf).toArray 0)=X at *;generalize j.objs.size=l at *;refine yA (zBg (zBh slot_list_sort ⟨_,H,rfl⟩ entry_list_sort ?_ (zDP _)));refine uV (s:={ s with heap:=X,toks:=n }) H k (λp D=>F p (u.mem_iff.mp D)) ((u.map _).nodup_iff.mpr O) (by ext) λW a c J G I P=>?_;refine⟨_,rfl,y4 ⟨_,rfl,h W n l a c (λb o e=>J b o (λz=>?_) (f b o e)) x G (I.trans u) P⟩⟩;rw[z] at e;rw[r] at e;cases e
end
end TB
namespace L2
open PySem PySem.Spec PyProof.Rows
noncomputable def gO (a:List (Str × M1)):List (Str × zAZ)->List (Str × M1)->List (Str × M1)| [],b=>b| (n,k)::r,b=>if (k == NameKind.free)=true then gO a r ((n,(a.lookup n).getD 0)::b) else gO a r b
theorem lV:∀{names:List (Str × zAZ)} {b:List (Str × M1)},(x,c)∈gO a names b->(x,c)∈b\/((x,NameKind.free)∈names/\c=(a.lookup x).getD 0)
 | [],_,h=>.inl h| (n,k)::r,b,h=>by
  unfold gO at h;by_cases d:(k == NameKind.free)=true
  ·have f:k=NameKind.free:=by ext
   subst f;rcases lV h with q | ⟨e,g⟩;·grind
   ext
  ·rw[xI d] at h;rcases lV h with q | ⟨e,g⟩;·ext
   ext
theorem oX:∀{names:List (Str × zAZ)} {a:List (Str × M1)},((x,NameKind.free)∈names\/(a.lookup x).isSome=true)->((gO b names a).lookup x).isSome=true
 | [],_,h=>by
  rcases h with h | h;·ext
  symm| (n,k)::r,a,h=>by
  unfold gO;by_cases c:(k == NameKind.free)=true
  ·rw[v6 c];refine oX ?_;grind
  ·rw[xI c];refine oX ?_;grind
theorem uf (f:Str × zAZ->List (Str × M1)->Sem (ForInStep (List (Str × M1))))(g:∀n k cs,f (n,k) cs=if (k == NameKind.free)=true then (do let a <-cellOf env n; pure (ForInStep.yield ((n,a)::cs))) else pure (ForInStep.yield cs)) : ∀(names:List (Str × zAZ)) (b:List (Str × M1)),(∀x∈names,x.2=NameKind.free->∃c,env.cells.lookup x.1=some c)->forIn names b f=(pure (gO env.cells names b):Sem (List (Str × M1)))
 | [],b,_=>by rfl| (n,k)::r,b,h=>by
  rw[List.forIn_cons,g];unfold gO;have i:∀x∈r,x.2=NameKind.free->∃c,env.cells.lookup _=some c:=λx o=>h x (by ext);by_cases d:(k == NameKind.free)=true
  ·rw[v6 d,v6 d];have m:k=NameKind.free:=by ext
   obtain⟨c,j⟩:=h _ zAc m;have e:=j;have l:cellOf env n=pure c:=by unfold cellOf; ext
   rw[l,e];exact uf f g r _ i
  ·rw[xI d,xI d];exact uf f g r _ i
theorem zL (h:∀x∈a.names,x.2=NameKind.free->∃c,env.cells.lookup x.1=some c):closureFor a env=pure (gO env.cells a.names []):=by
 unfold closureFor;dsimp only;rw[uf _ ?_ a.names [] h];·rfl
 simp
theorem ou:∀{names:List (Str × zAZ)} {n:Nat} {a:List (Str × M1)},(x,c)∈zAU n names a->(x,c)∈a\/(n<=c/\(x,NameKind.cell)∈names)
 | [],_,_,h=>.inl h| (y,k)::r,n,a,h=>by
  unfold zAU at h;by_cases b:(k == NameKind.cell)=true
  ·have d:k=NameKind.cell:=by ext
   subst d;rcases ou h with q | ⟨e,f⟩;·grind
   grind
  ·rw[xI b] at h;rcases ou h with q | ⟨e,f⟩;·ext
   ext
theorem oz:∀{names:List (Str × zAZ)} {n:Nat} {d:List (Str × M1)},(∀p∈d,p.2 < n)->(x,c)∈zAU n names d->(y,c)∈zAU n names d->((x,c)∈d/\(y,c)∈d)\/x=y
 | [],_,_,_,h,f=>.inl ⟨h,f⟩| (z,k)::r,n,d,j,h,f=>by
  unfold zAU at h f;by_cases i:(k == NameKind.cell)=true
  ·rw[v6 i] at h f;have g:∀p∈(z,n)::d,p.2 < n+1:=λp l=>by grind
   rcases oz g h f with ⟨a,b⟩ | e;·grind
   ext
  ·rw[xI i] at h f;exact oz j h f
theorem nh:∀{names:List (Str × zAZ)} {h:Heap} {a:List (Str × M1)},(x,c)∈zAU h.objs.size names a->(x,c)∈a\/(zCQ h names).IsCell c none
 | [],_,_,q=>.inl q| (y,k)::r,h,a,q=>by
  unfold zAU at q;unfold zCQ;by_cases b:(k == NameKind.cell)=true
  ·rw[v6 b] at q ⊢;have d:(x,c)∈zAU (h.push { cls:=.type "cell",data:=.cell none }).objs.size r ((y,h.objs.size)::a):=by ext
   rcases nh d with z | z
   ·rcases u1.mp z with e | z
    ·cases e;exact .inr ⟨_,zCL r _ _ _ (u3 _ rfl),rfl⟩
    ext
   ext
  ·rw[xI b] at q ⊢;exact nh q
theorem GQ {M:Model}{A:zAI}{E:zzE}{s:VV}{scope:zCT}{globals:M1}{a:List (Str × M1)}{qual:Str}{env:Env}{Q:Env->VV->Prop}(h:Q { scope:=scope,locals:=s.heap.objs.size,globals:=globals,cells:=zAU (s.heap.objs.size+1) scope.names a,qual:=qual,func:=none,code:=env.code,frame:=env.frame,builtins:=env.builtins } { s with heap:=zCQ (s.heap.push { cls:=.type "dict",data:=.dict #[] }) scope.names }) : zAC M A (newFunctionEnv scope globals a [] qual none .none (some env)) Q E s:=by
 refine yA (wpAny_alloc ?_);refine yA (wpAny_layCells _ ?_ scope.names a _ _ ?_);·simp
 ·have e:(s.heap.push { cls:=.type "dict",data:=.dict #[] }).objs.size=s.heap.objs.size+1:=size_push ..;rw[<-e] at h;exact y4 h
theorem jS {env:Env}:∀{names:List (Str × zAZ)},(names.map λ(n,k)=>if (k == NameKind.free&&env.scope.kind == .function&&env.kindOf n == some .cell) then (n,NameKind.cell) else (n,k)).lookup x=some a-> ∃k,names.lookup x=some k/\(a=k\/(k=.free/\a=.cell))
 | [],h=>by ext| (n,k)::r,h=>by
  by_cases d:(k == NameKind.free&&env.scope.kind == .function&&env.kindOf n == some .cell)=true
  ·simp only [zAw,d,if_true,zC4] at h ⊢;cases b:x == n with| true=> ext| false=> rw[b] at h;exact jS h
  ·have c:(k == NameKind.free&&env.scope.kind == .function&&env.kindOf n == some .cell)=false:=by ext
   simp only [zAw,c,zBa,zC2,zC4] at h ⊢;cases b:x == n with| true=>ext| false=> rw[b] at h;exact jS h
theorem ko {env:Env}:∀{names:List (Str × zAZ)},names.lookup x=some k-> ∃c,(names.map λ(n,k)=>if (k == NameKind.free&&env.scope.kind == .function&&env.kindOf n == some .cell) then (n,NameKind.cell) else (n,k)).lookup x=some c/\(c=k\/(k=.free/\c=.cell))
 | [],h=>by ext| (n,d)::r,h=>by
  by_cases e:(d == NameKind.free&&env.scope.kind == .function&&env.kindOf n == some .cell)=true
  ·simp only [zAw,e,if_true,zC4] at h ⊢;cases b:x == n with| true=> ext| false=> rw[b] at h;exact ko h
  ·have a:(d == NameKind.free&&env.scope.kind == .function&&env.kindOf n == some .cell)=false:=by ext
   simp only [zAw,a,zBa,zC2,zC4] at h ⊢;cases b:x == n with| true=>ext| false=> rw[b] at h;exact ko h
noncomputable def compEnv (a:zCT)(C:M1)(env:Env):Env:={ scope:=relabel a env,locals:=C,globals:=env.globals,cells:=zAU (C+1) a.names (gO env.cells a.names []),qual:=env.qual,func:=none,code:=env.code,frame:=env.frame,builtins:=env.builtins }
noncomputable def cZ (X:Cx)(b:List Str)(a:zCT)(C:M1)(s₀:VV)(H₀:Hp)(ex:List M1):Cx where prog:=X.prog;w:=X.w;K:=X.K;mg:=X.mg;base:=X.base;A:=X.A;N:=b;s₀:=s₀;H₀:=H₀;env:=compEnv a C X.env;outer:=X.stack;stack:=X.stack;ex:=ex;fn:=λx=>decide (a.names.lookup x=some .cell);calm:=X.calm;pn:=[];xe:=λ_ _=>False
noncomputable def dS (a:List (Option Nat))(σ:St):St:=a.map λo=>o.bind λj=>(σ[j]?).join
structure iC (X:Cx)(N':List Str)(ix:List (Option Nat))(sc:zCT):Prop where
 kind:sc.kind=.function
 nd:N'.Nodup
 uniq:(sc.names.map (·.1)).Nodup
 len:ix.length=N'.length
 free:∀x∈sc.names,x.2=.free->X.env.kindOf x.1=some .cell\/X.env.kindOf x.1=some .free
 at_:∀(i j:Nat),ix[i]?=some (some j)->∃x,N'[i]?=some x/\X.N[j]?=some x/\sc.names.lookup x=some .free
theorem jr {α:Type}{a:α}:∀{l:List (Str × α)},(l.map (·.1)).Nodup->(x,a)∈l->l.lookup x=some a
 | (k,v)::r,b,h=>by
  rw[zAw,zB6] at b;rw[zC4];rcases u1.mp h with e | h;·ext
  ·have:(x == k)=false:=by grind
   rw[this];exact jr b.2 h
section
variable {X:Cx}{pins:zzC}{σ:St}{H:Hp}{s:VV}{N':List Str}{ix:List (Option Nat)}{sc:zCT}{ex:List M1}
theorem lu (S:iC X N' ix sc)(h:(compEnv sc C X.env).cells.lookup x=some c)(d:X.Ok) :(X.env.cells.lookup x=some c/\sc.names.lookup x=some .free)\/(C+1<=c/\sc.names.lookup x=some .cell):=by
 rcases ou (mem_of_lookup h) with q | ⟨a,b⟩
 ·rcases lV q with q | ⟨a,b⟩;·ext
  ·obtain⟨e,f⟩:=d.has x (S.free _ a rfl);exact .inl ⟨by ext,jr S.uniq a⟩
 ·exact .inr ⟨a,jr S.uniq b⟩
theorem B_ (S:iC X N' ix sc)(I:Inv X pins σ H s)(C:M1){i:Nat}(w:N'[i]?=some x)(J:(dS ix σ)[i]?=some (some v)) : ∃u c,RelV v u/\((compEnv sc C X.env).kindOf x=some .cell\/(compEnv sc C X.env).kindOf x=some .free)/\(compEnv sc C X.env).cells.lookup x=some c/\X.env.cells.lookup x=some c/\s.heap.IsCell c (some u):=by have a:(ix.map λo=>o.bind λj=>(σ[j]?).join)[i]?=some (some v):=J;rw[v3] at a;cases e:ix[i]? with| none=>rw[e] at a; cases a| some o=> rw[e] at a;cases o with| none=>cases a| some j=>
   have f:(σ[j]?).join=some v:=zAy a;have K:σ[j]?=some (some v):=by cases q:σ[j]? with| none=>rw[q] at f; cases f| some o=>rw[q] at f; exact zAz some f
   obtain⟨M,G,L,h⟩:=S.at_ i j e;rw[G] at w;cases w;have t:=S.free _ (mem_of_lookup h) rfl;obtain⟨m,N,E⟩:=I.loc;have p:O4 X.env.scope x:=by
    rcases t with k | k;·exact .inr (.inl k)
    ·exact .inr (.inr k)
   obtain⟨u,r,l⟩:=E j x v L K p;rcases l with ⟨k,_⟩ | ⟨k,c,y,z⟩;·rcases t with g | g <;> (rw[k] at g; cases g)
   ·obtain⟨g,q,b⟩:=ko (env:=X.env) (names:=sc.names) h;have:((zAU (C+1) sc.names (gO X.env.cells sc.names [])).lookup x).isSome=true:=zCn _ _ _ (.inr (oX (.inl (mem_of_lookup h))));obtain⟨D,d⟩:=zCi.mp this;have F:c=D:=by
     rcases lu S (C:=C) d I.ok with ⟨B,_⟩ | ⟨_,A⟩;·rw[y] at B; exact zAy B
     ·rw[h] at A; cases A
    subst F;refine⟨u,c,r,?_,d,y,z⟩;show (relabel sc X.env).names.lookup x=some .cell\/(relabel sc X.env).names.lookup x=some .free;rcases b with b | ⟨_,b⟩;·exact .inr (b ▸ q)
    ·exact .inl (b ▸ q)
theorem JL (S:iC X N' ix sc)(I:Inv X pins σ H s)(w:∀b∈ex,lR X pins H b)(M:∀b∈ex,∃o,s.heap.get? b=some o) : Inv (cZ X N' sc s.heap.objs.size s H ex) [] (dS ix σ) H { s with heap:=zCQ (s.heap.push { cls:=.type "dict",data:=.dict #[] }) sc.names }:=by
 have d:∀b o,s.heap.get? b=some o->(zCQ (s.heap.push { cls:=.type "dict",data:=.dict #[] }) sc.names).get? b=some o:=λb o e=>zCL _ _ _ _ (y1 _ e);have D:∀x c,X.env.cells.lookup x=some c->c < s.heap.objs.size:=λx c e=>by obtain⟨v,q⟩:=I.cell x c e; exact q.lt
 have n:∀b∈ex,b < s.heap.objs.size:=λb f=>by obtain⟨o,e⟩:=M b f; exact vT e
 have K:(cZ X N' sc s.heap.objs.size s H ex).Ok:=by
  refine⟨I.ok.mod,S.kind,I.ok.glob,I.ok.blt,y6 _,λx y c t A=>?_,λx B=>?_,λx c B g=>?_,I.ok.hd,I.ok.frames,.inl rfl,λb f=>⟨wE (n b f),λx c h z=>?_⟩,I.bs,zAv I.ok.zv I.sz,λb o e f=>?_,λb f N=>?_,I.stack,I.xw⟩
  ·have l:∀p∈gO X.env.cells sc.names [],p.2 < s.heap.objs.size+1:=λp C=>by
    obtain⟨P,T⟩:=p;rcases lV C with q | ⟨O,Q⟩;·ext
    ·obtain⟨F,g⟩:=I.ok.has P (S.free _ O rfl);grind
   rcases oz l (mem_of_lookup t) (mem_of_lookup A) with ⟨a,b⟩ | e
   ·rcases lu S t I.ok with ⟨q,_⟩ | ⟨q,_⟩
    ·rcases lu S A I.ok with ⟨E,_⟩ | ⟨E,_⟩;·exact I.ok.inj _ _ _ q E
     grind
    grind
   symm
  ·have m:=B;have:sc.names.lookup x=some .cell\/sc.names.lookup x=some .free:=by
    rcases m with q | q
    ·obtain⟨k,e,z⟩:=jS (names:=sc.names) q;grind
    ·obtain⟨k,e,z⟩:=jS (names:=sc.names) q;ext
   refine zCi.mp ?_;rcases this with q | q;·exact zCn _ _ _ (.inl q)
   ·exact zCn _ _ _ (.inr (oX (.inl (mem_of_lookup q))))
  ·have m:sc.names.lookup x=some .cell:=zAi B;rcases lu S g I.ok with ⟨_,q⟩ | ⟨q,_⟩;·rw[m] at q; cases q
   ·exact Nat.le_of_succ_le q
  ·rcases lu S h I.ok with ⟨q,_⟩ | ⟨q,_⟩;·exact (w b f).2.2.2.2.1 x c q z
   ·exact absurd (wS (n b f) (Nat.le_of_succ_le (z ▸ q))) (zBl _)
  ·rcases (w b f).2.2.2.1 with z | z;·exact I.ok.DV b o e z
   ·exact absurd (wS (vT e) (zAv I.ok.zv z)) (zBl _)
  ·rcases u1.mp (I.DY b N) with z | z;·exact (w b f).2.1 z
   ·exact (w b f).2.2.1 z
 refine⟨K,rfl,I.bare,Un.kept d,⟨λ_=>none,?_,λi x v t A R=>?_⟩,λx c h=>?_,I.hok.fresh (y6 _),λx c h=>?_,λp C=>absurd (show p∈([]:zzC) from C) (by simp),I.hok.kept d,?_⟩;·exact (Heap.Ns.new s.heap (.type "dict")).keeps λb o e=>zCL _ _ _ _ e
 ·obtain⟨u,c,r,k,g,_,z⟩:=B_ S I s.heap.objs.size t A;exact⟨u,r,.inr ⟨k,c,g,z.keeps d⟩⟩
 ·rcases lu S h I.ok with ⟨q,_⟩ | ⟨q,_⟩
  ·obtain⟨v,z⟩:=I.cell x c q;exact⟨v,z.keeps d⟩
  ·have L:(x,c)∈zAU (s.heap.push { cls:=.type "dict",data:=.dict #[] }).objs.size sc.names (gO X.env.cells sc.names []):=by rw[size_push]; exact mem_of_lookup h
   rcases nh L with z | z
   ·rcases lV z with z | ⟨J,G⟩;·exact absurd z (by simp)
    ·obtain⟨F,g⟩:=I.ok.has x (S.free _ J rfl);rw[g] at G;have:=D _ _ g;rw[show c=F from G] at q;exact absurd (wS this (Nat.le_of_succ_le q)) (zBl _)
   ·exact⟨none,z⟩
 ·rcases lu S h I.ok with ⟨q,_⟩ | ⟨q,_⟩;·exact I.kT x c q
  ·exact I.hok.fresh (Nat.le_of_succ_le q)
 ·show (ix.map _).length=N'.length;rw[yB]; exact S.len
theorem comp_back (S:iC X N' ix sc)(I:Inv X pins σ H s)(w:∀b∈ex,lR X pins H b)(J:Inv (cZ X N' sc s.heap.objs.size s H ex) ps j H' s'):Inv (cZ X N' sc s.heap.objs.size s H ex) [] (dS ix σ) H' s':=by
 obtain⟨m,l,_⟩:=J.loc;refine⟨J.ok,J.os,J.bare,J.base,⟨m,l,λi x v n t y=>?_⟩,J.cell,J.free,J.kT,λp d=>absurd (show p∈([]) from d) (by simp),J.hok,?_⟩
 ·obtain⟨u,c,r,k,g,a,⟨o,e,h⟩⟩:=B_ S I s.heap.objs.size n t;have f:=J.base;obtain⟨A,q⟩:=f.any e (I.kT x c a) λz=>(w c z).2.2.2.2.1 x c a rfl;exact⟨u,r,.inr ⟨k,c,g,_,q,h⟩⟩
 ·show (ix.map _).length=N'.length;rw[yB]; exact S.len
theorem zM (I:Inv X pins σ H s)(j:∀b∈ex,lR X pins H b)(J:Inv (cZ X N' sc s.heap.objs.size s H ex) ps i H' s') (h:Heap.SameBut s.heap.objs.size s'.heap h'):Inv X pins σ H' { s' with heap:=h' }:=by
 have u:=J.base;have f:∀b o,s.heap.get? b=some o->b≠s.heap.objs.size:=λb o e=>wE (vT e);have g:=λb a=>h.2 b a;have r:H' s.heap.objs.size=none:=J.free;refine I.WE J.os ⟨λb o e n a d=>?_,λb o e n a d=>?_,u.free,λb o e d=>?_,u.tups,u.ng,u.oj⟩ (λb o e=>?_) J.bare λb a=>?_;·exact (g b (f b o e)).trans (u.keep b o e n a d)
 ·obtain⟨t,q⟩:=u.slot b o e n a d;ext
 ·obtain⟨p,q⟩:=u.there b o e d;ext
 ·refine (J.hok b o e).stay (λc v l q=>(g c ?_).trans q) (by simp) (by simp);grind
 ·obtain⟨w,z,y,x,k,m⟩:=j b a;grind
end
noncomputable def PF (X:Cx)(b:List zAR)(t:TT):Prop:= ∀(a:zzC) (s:VV) (σ:St) (H:Hp) (Q:Bool->Hp->Prop),Inv X a σ H s->t σ H Q-> zAC (zAD X.prog X.w) X.A (forIn b true λc r=>if r=true then do let d <-zDf c X.env (zAM c X.env); pure (ForInStep.yield d) else pure (ForInStep.yield r)) (TP X a σ Q) X.xe s
noncomputable def ly:TT:=λ_ H Q=>Q true H
theorem bT:PF X [] ly:=λ_ _ _ H _ I h=>wpAny_tests_nil ⟨H,I,h⟩
theorem sR (h:PT X c t):PF X [c] t:=λa s σ H Q I b=>wpAny_tests_one (h a s σ H Q I b)
theorem Ep {prog:zAA}{w:zAE}{A:zAI}{R:Result->VV->Prop}{s:VV}{f a g:zAR}{i:List zAR}{b:zCT}{k:Pos}{l d:Value}{env:Env}(I:Nat->VV->Prop)(e:∀n s,I n s->zAC (zAD prog w) A (zBU l) (λr j=>match r with| none=>R (.ok .next) j| some v=>zAC (zAD prog w) A (zCK a l v) (λ_ q=>zAC (zAD prog w) A (assign a env v) (λ_ p=> zAC (zAD prog w) A (forIn i true λc r=>if r=true then do let ok <-zDf c env (zAM c env); pure (ForInStep.yield ok) else pure (ForInStep.yield r)) (λok o=> if ok=true then zAC (zAD prog w) A (zAM f env) (λx y=> zAC (zAD prog w) A (call (.builtin "list.append") [d,x]) (λ_ t=>∃m,m < n/\I m t) (λ_ _=>False) y) (λ_ _=>False) o else ∃m,m < n/\I m o) (λ_ _=>False) p) (λ_ _=>False) q) (λ_ _=>False) j) (λ_ _=>False) s)(n:Nat) (h:I n s) : zBK (zAD prog w) A (.compLoop (.ListComp f [⟨a,g,i,0⟩] b k) 0 l d env) R s:=by refine codeAny_loop rfl I (λn s C=>?_) n h;refine wpAny_noted ?_;refine yA (wpAny_standAt (yA (zB3 (e n s C) (λr j u=>?_) λ_ _ z=>z.elim)));cases r with| none=>exact y4 u| some v=> refine yA (zB3 u (λ_ q F=>?_) λ_ _ z=>z.elim);refine yA (zB3 F (λ_ p G=>yA (zB3 G (λok o B=>?_) λ_ _ z=>z.elim)) λ_ _ z=>z.elim);cases ok with| false=>exact y4 ⟨rfl,B⟩| true=> exact yA (yA (zB3 B (λx y E=>yA (zB3 E (λ_ t D=>y4 (y4 ⟨rfl,D⟩)) λ_ _ z=>z.elim)) λ_ _ z=>z.elim))
noncomputable def cL (J:It)(o:List (Option Nat))(g:TG)(n:TT)(p:TE)(σ:St)(k:Hp)(Q:M1->Hp->Prop):Prop:= ∀D,k D=none->∃W:Nat->Nat->List V->Hp->Prop,(∃m,W 0 m [] (upd k D (.lst [])))/\∀i m a c,W i m a c->c D=some (.lst a)->(J.stop i c/\Q D c)\/(J.go i c/\∀x f,J.BW i c x f->g x (dS o σ) f λh l=>n h l λb e=> if b=true then p h e λv j=>j D=some (.lst a)/\a.length < PK/\∃d,d < m/\W (i+1) d (a++[v]) (upd j D (.lst (a++[v]))) else e D=some (.lst a)/\∃d,d < m/\W (i+1) d a e)
noncomputable def oY (a:TI)(e:List (Option Nat))(g:TG)(c:TT)(f:TE):TE:=fun σ H Q=>a σ H λJ b=>cL J e g c f σ b λD d=>Q (.ref D) d
section
variable {X:Cx}{N':List Str}{ix:List (Option Nat)}{sc:zCT}{elt tg iter:zAR}{ifs:List zAR}{wi:TI}{g:TG}{tf:TT}{te:TE}{pos:Pos}
set_option maxHeartbeats 1000000 in theorem zN (S:iC X N' ix sc)(hc:X.calm=true)(hg:∀C P V ex,PG (cZ X N' sc C P V ex) tg g) (hf:∀C P V ex,PF (cZ X N' sc C P V ex) ifs tf) (he:∀C P V ex,PE (cZ X N' sc C P V ex) elt te){l:zzC} {σ:St} {j:VV} {itv:Value} {Q:M1->Hp->Prop} {E:zzE} {RR:Value->M1->Result->VV->Prop}(h2:S1 X l σ tg (λJ H1=>cL J ix g tf te σ H1 Q) itv j)(hR:∀(D C:M1) (H3 H':Hp) (c s':VV) (σ':St) (ex:List M1) (ps:zzC),C=c.heap.objs.size->Inv X l σ H3 c->(∀b∈ex,lR X l H3 b)->Inv (cZ X N' sc c.heap.objs.size c H3 ex) ps σ' H' s'->Q D H'->RR (.ref D) C (.ok .next) s') : zAC (zAD X.prog X.w) X.A (newList []) (λacc s₃=>zAC (zAD X.prog X.w) X.A (newFunctionEnv sc X.env.globals (gO X.env.cells sc.names []) [] X.env.qual none .none (some X.env)) (λw s₄=> zBK (zAD X.prog X.w) X.A (.compStart (.ListComp elt [⟨tg,iter,ifs,0⟩] sc pos) 0 itv acc { w with scope:=relabel sc X.env }) (RR acc w.locals) s₄) E s₃) E j:=by
 refine hold λZK ZO=>?_;obtain⟨it,fp,tn,J,H2,rfl,I2,T,st2,f2,cw⟩:=h2;obtain⟨W,⟨m0,w0⟩,turn⟩:=cw j.heap.objs.size I2.fresh;refine ZO ?_;refine zCy ?_;generalize Xg:({ j with heap:=j.heap.push { cls:=.type "list",dict:=none,data:=.seq ([]:List Value).toArray } }:VV)=c;have I3:Inv X l σ (upd H2 j.heap.objs.size (.lst [])) c:=by rw[<-Xg];exact I2.JK (its:=[]) (t':=j.toks) .nil (zAb _)
 have k23:∀b o,j.heap.get? b=some o->c.heap.get? b=some o:=λb o e=>by rw[<-Xg]; exact y1 _ e
 have fD:∀b∈fp,b≠j.heap.objs.size:=λb k=>by obtain⟨o,e,_⟩:=T.obj _ _ st2 b k;exact wE (vT e)
 have f3:∀b∈fp,lR X l (upd H2 j.heap.objs.size (.lst [])) b:=λb k=>⟨by rw[aD (fD b k)]; exact (f2 b k).1,(f2 b k).2⟩;have st3:tn 0 c.heap:=T.keep _ _ _ st2 (by ext);have e3:∀b∈fp,∃o,c.heap.get? b=some o:=λb k=>by obtain⟨o,e,_⟩:=T.obj _ _ st3 b k;ext
 refine GQ ?_;have J4:=JL (ex:=fp) S I3 f3 e3;have k34:∀b o,c.heap.get? b=some o->(zCQ (c.heap.push { cls:=.type "dict",data:=.dict #[] }) sc.names).get? b=some o:=λb o e=>zCL _ _ _ _ (y1 _ e);generalize ZP:({ c with heap:=zCQ (c.heap.push { cls:=.type "dict",data:=.dict #[] }) sc.names }:VV)=s4 at J4;have Xh:tn 0 s4.heap:=by rw[<-ZP]; exact T.keep _ _ _ st3 (by ext)
 show zBK (zAD X.prog X.w) X.A (.compStart (.ListComp elt [⟨tg,iter,ifs,0⟩] sc pos) 0 (.ref it) (.ref j.heap.objs.size) (compEnv sc c.heap.objs.size X.env)) (RR (.ref j.heap.objs.size) c.heap.objs.size) s4;generalize m:cZ X N' sc c.heap.objs.size c (upd H2 j.heap.objs.size (.lst [])) fp=Y at J4;have O:Y.prog=X.prog:=by rw[<-m]; rfl
 have N:Y.w=X.w:=by rw[<-m]; rfl
 have yK:Y.K=X.K:=by rw[<-m]; rfl
 have M:Y.A=X.A:=by rw[<-m]; rfl
 have ye:Y.env=compEnv sc c.heap.objs.size X.env:=by rw[<-m]; rfl
 have yx:Y.xe=λ_ _=>False:=by rw[<-m]; rfl
 have yc:Y.calm=true:=by rw[<-m]; symm
 have yfs:Y.fs=frs X.stack:=by rw[<-m]; rfl
 have yex:Y.ex=fp:=by rw[<-m]; rfl
 have ypn:Y.pn=[]:=by rw[<-m]; rfl
 have yl:Y.env.locals=c.heap.objs.size:=by rw[ye]; rfl
 have ZQ:PG Y tg g:=by rw[<-m]; exact hg _ _ _ _
 have ZR:PF Y ifs tf:=by rw[<-m]; exact hf _ _ _ _
 have ZS:PE Y elt te:=by rw[<-m]; exact he _ _ _ _
 have Z:=J4.ok;have s:∀{H':Hp},(∀b∈fp,H' b=none)->∀b∈fp,lR Y [] H' b:=λhn b k=>by have x:=Z.SO b (by ext);exact⟨hn b k,x.1,Z.DW b (by ext),.inl (by ext),x.2,λp hp=>by ext⟩
 have A:zBK (zAD X.prog X.w) X.A (.compLoop (.ListComp elt [⟨tg,iter,ifs,0⟩] sc pos) 0 (.ref it) (.ref j.heap.objs.size) (compEnv sc c.heap.objs.size X.env)) (RR (.ref j.heap.objs.size) c.heap.objs.size) s4:=by
  refine Ep (λn s'=>∃i F H',Inv Y [] (dS ix σ) H' s'/\tn i s'.heap/\(∀b∈fp,H' b=none)/\H' j.heap.objs.size=some (.lst F)/\W i n F H') ?_ m0 ⟨0,[],_,J4,Xh,λb k=>(f3 b k).1,aq,w0⟩;rintro n s5 ⟨i,F,H5,I5,Xi,Xj,Tw,w5⟩;have acO:(dS ix σ).length=Y.N.length:=J4.len;rcases turn i n F H5 w5 Tw with ⟨stop,q⟩ | ⟨go,step⟩
  ·have r:=T.done Y O N yK yc i [] s5 (dS ix σ) H5 (λ_ _=>False) I5 (s Xj) Xi stop;rw[M] at r;refine aQ r λr s6 ⟨hr,I6⟩=>?_;subst hr;refine hR _ _ _ H5 c s6 (dS ix σ) fp [] rfl I3 f3 ?_ q;rw[m]; symm
  ·have r:=T.item Y O N yK yc i [] s5 (dS ix σ) H5 (λ_ _=>False) I5 (s Xj) Xi go;rw[M] at r;refine aQ r λr s6 ⟨u,hr,h6⟩=>?_;subst hr;refine aQ h6 λ_ s7 H=>?_;obtain⟨x,H7,I7,r7,y7,K,ZT⟩:=H;have ZU:=I7.pinned (s ZT) (T.obj _ _ K);have r2:=ZQ _ s7 (dS ix σ) H7 x u _ ZU r7 (step x H7 y7);rw[O,N,M,ye,yx] at r2;refine aQ r2 λ_ s8 H=>?_;obtain⟨σ8,H8,I8,q8⟩:=H;have r3:=ZR _ s8 σ8 H8 _ I8 q8;rw[O,N,M,ye,yx] at r3;refine aQ r3 λok s9 ⟨H9,I9,q9⟩=>?_;have again:∀{f:VV} {I:St} {a:Hp},Inv Y ([]++vB fp s7.heap) I a f->I.length=Y.N.length->Inv Y [] (dS ix σ) a f->tn (i+1) f.heap/\∀b∈fp,a b=none:=λ{f I a} J _ _=>by have p:=λb k o e=>J.pin (b,o) (zBu _ (zBu _ (ua (fp:=fp) (h:=s7.heap) (b:=b) (o:=o) k e)));refine⟨T.keep _ _ _ K λb k o e=>(p b k o e).1,λb k=>?_⟩;obtain⟨o,e,d⟩:=T.obj _ _ K b k;exact (p b k o e).2.1
   have G:∀{f:VV} {a:Hp},Inv Y ([]++vB fp s7.heap) σ8 a f->Inv Y [] (dS ix σ) a f:=λ{f a} J=>by rw[<-m] at J ⊢;exact comp_back S I3 f3 J
   cases ok with| false=> rw[xI (by decide)] at q9 ⊢;obtain⟨ZV,m',hm,w9⟩:=q9;have B:=G I9;have z:=again I9 I9.len B;exact⟨m',hm,i+1,F,H9,B,z.1,z.2,ZV,w9⟩| true=> rw[v6 rfl] at q9 ⊢;have r4:=ZS _ s9 σ8 H9 _ I9 q9;rw[O,N,M,ye,yx] at r4;refine aQ r4 λv f H=>?_;obtain⟨y,a,ZW,ZX,R,hz,m',hm,ZY⟩:=H;have r5:=dh (X:=Y) _ f σ8 a (.ref j.heap.objs.size) [y] (.ref j.heap.objs.size) [v] (λ_ U=>U=upd a j.heap.objs.size (.lst (F++[y]))) ZW rfl (.cons ZX .nil) ⟨_,F,y,rfl,rfl,R,hz,rfl⟩;rw[O,N,M,yx] at r5;refine aQ r5 λ_ s11 H=>?_;obtain⟨_,U,L,_,ZZ⟩:=H;subst ZZ;have B:=G L;have z:=again L L.len B;exact⟨m',hm,i+1,F++[y],_,B,z.1,z.2,aq,ZY⟩
 exact codeAny_compStart_list A (T.self _ 0 _ _ _ Xh A)
theorem Ra (S:iC X N' ix sc)(l:X.calm=true)(w:PI X tg iter wi)(A:∀C c b ex,PG (cZ X N' sc C c b ex) tg g) (n:∀C c b ex,PF (cZ X N' sc C c b ex) ifs tf) (z:∀C c b ex,PE (cZ X N' sc C c b ex) elt te)(B:∀x,zBH iter X.env x=pure x:=by intro _; rfl):PE X (.ListComp elt [⟨tg,iter,ifs,0⟩] sc pos) (oY wi ix g tf te):=by intro d s σ H Q I h;have e:=zL λx j i=>I.ok.has _ (S.free x j i);have a:∀x∈sc.names,x.2=.local->sc.names.lookup x.1=some .local:=λx j i=>jr S.uniq (by grind);refine wpAny_comprehension_free rfl B e S.kind a (aQ (w d s σ H _ I h) λv K u=>aQ u λy O E=>?_);refine zN S l A n z E ?_;intro D C M o F G N ex P k p r J q;subst k;obtain⟨m,t,_⟩:=J.loc;exact⟨m,t,λL f=>⟨.ref D,o,zM p r J f,rfl,q⟩⟩
noncomputable def ni (i:Nat)(wi:TI)(ix:List (Option Nat))(g:TG)(tf:TT)(te:TE):TS:=λD σ H=>wi σ H λJ c=>cL J ix g tf te σ c λa b=>D.nx (σ.set i (some (.ref a))) b
theorem JM {F f:Pos}(U:X.N.Nodup)(W:X.N[i]?=some y)(hL:Loc X.env.scope y)(S:iC X N' ix sc)(N:X.calm=true)(hi:PI X tg iter wi)(R:∀C j n ex,PG (cZ X N' sc C j n ex) tg g) (hf:∀C j n ex,PF (cZ X N' sc C j n ex) ifs tf) (he:∀C j n ex,PE (cZ X N' sc C j n ex) elt te)(u:zBR (.ListComp elt [⟨tg,iter,ifs,0⟩] sc pos) (some (.Name y F)) f.line X.env=pure true:=by rfl)(O:∀x,zBH iter X.env x=pure x:=by intro _; rfl)(A:X.fn y=true\/X.env.scope.names.lookup y=some .local:=by first | exact .inl rfl | exact .inr rfl | symm) : PS X (.Assign [.Name y F] (.ListComp elt [⟨tg,iter,ifs,0⟩] sc pos) f) (ni i wi ix g tf te):=by
 intro l s σ H D I h;rw[exec_Assign_Name_used _ _ _ _ u];refine yA (wpAny_standAt (yA ?_));have E:=zL λx L G=>I.ok.has _ (S.free x L G);have d:∀x∈sc.names,x.2=.local->sc.names.lookup x.1=some .local:=λx L G=>jr S.uniq (by grind);refine yA (zB3 (wpAny_comprehension_free rfl O E S.kind d (aQ (hi l s σ H _ I h) λv s1 h1=>aQ h1 λitv s2 Q=>?_)) (λ_ s' V=>y4 (y4 V)) λ_ _ e=>e);refine zN S N R hf he Q ?_;intro a C H3 H' K s' σ' ex ps M k Z J q;subst M;obtain⟨m,hn,_⟩:=J.loc;have I5:=zM k Z J (Heap.SameBut.refl _ _);have t:=wE k.lt;have w:∀x c,X.env.cells.lookup x=some c->c≠K.heap.objs.size:=λx c e=>by obtain⟨v,z⟩:=k.cell x c e;exact wE z.lt
 refine wpAny_assign_Name (BU (v:=.ref a) I5 U W hL rfl (λs6 I6 r=>?_) A);obtain⟨b,Y,r⟩:=r;have P:K.heap.objs.size≠b:=by grind
 refine⟨m,hn.sameBut Y P,λh' B=>?_⟩;refine⟨_,H',I6.turned (λb o r e=>(B.2 b r).trans e) J.free (Ne.symm t) (.inr k.sz) w (λp T z=>?_),q⟩;have:=(k.pin p T).1;exact absurd (vT this) (by ext)
end
noncomputable def zO (d:List (Str × zAZ))(N b:List Str)(c:List (Option Nat))(a:zCT):Bool:= decide (a.kind=.function)&&decide b.Nodup&&decide (a.names.map (·.1)).Nodup&&decide (c.length=b.length)&& a.names.all (λx=>decide (x.2≠.free)||decide (d.lookup x.1=some .cell)||decide (d.lookup x.1=some .free))&&(range c.length).all λi=>match c[i]? with| some (some j)=>(match b[i]? with| some x=>decide (N[j]?=some x)&&decide (a.names.lookup x=some .free)| none=>false)| _=>true
theorem vJ (h:zO X.env.scope.names X.N b c a=true):iC X b c a:=by
 unfold zO at h;simp only [zAp,zAu,zAj,Bool.or_eq_true,zAk] at h;obtain⟨⟨⟨⟨⟨g,m⟩,f⟩,l⟩,d⟩,o⟩:=h;refine⟨g,m,f,l,λx k n=>?_,λi j e=>?_⟩
 ·rcases d x k with (q | q) | q;·ext
  ·exact .inl q
  ·exact .inr q
 grind
theorem ah.new {H:Hp}{p:M1}(h:H p=none)(o:HO):ah H (upd H p o):=λb u q=>by rw[aD (aS q h)]; symm
theorem ah.put (e:ah H H')(h:H p=none)(o:HO):ah H (upd H' p o):=λb u q=>by rw[aD (aS q h)]; exact e b u q
theorem ah.tup {K:zzA}{H H':Hp}{a:M1}{xs:List V}(e:ah H H')(h:aG K H a xs):aG K H' a xs:=by
 rcases h with (h | ⟨o,h⟩) | h;·exact .inl (.inl (e a _ h))
 ·exact .inl (.inr ⟨o,e a _ h⟩)
 ·exact .inr h
section
variable {K:zzA}{ix:List (Option Nat)}{g:TG}{tf:TT}{te:TE}{σ:St}{H1:Hp}{Q:M1->Hp->Prop}
theorem qI {a:M1}{xs:List V}(u:ay K H1 a xs)(hz:xs.length<=PK)(f:Nat->List V->Hp->Prop)(w:∀D,H1 D=none->f 0 [] (upd H1 D (.lst [])))(A:∀D i x ys H (s:VK) (r:Hp->Prop),H1 D=none->xs[i]?=some x->ah H1 H->H D=some (.lst ys)->f i ys H->(∀v n,ah H n->f (i+1) (ys++[v]) (upd n D (.lst (ys++[v])))->s v n)->(∀d,ah H d->f (i+1) ys d->r d)->g x (dS ix σ) H λt z=>tf t z λb d=>if b=true then te t d s else r d)(C:∀D ys H,H1 D=none->ah H1 H->H D=some (.lst ys)->ys.length<=xs.length->f xs.length ys H->Q D H):cL (mW K a) ix g tf te σ H1 Q:=by
 intro D k;refine⟨λi m ys H=>m=xs.length - i/\i<=xs.length/\ah H1 H/\ys.length<=i/\f i ys H,⟨xs.length,by simp,zAb _,ah.new k _,y6 _,w D k⟩,?_⟩;rintro i m ys H ⟨rfl,F,j,B,p⟩ c;have q:=j.seq u;by_cases h:i < xs.length
 ·refine .inr ⟨⟨xs,xs[i],q,by simp⟩,λx E y=>?_⟩;obtain⟨e,y⟩:=y;subst e;refine A D i x ys _ _ _ k (y xs q) j c p (λv n l o=>?_) λd l o=>?_
  ·refine⟨l _ _ c,by lia,xs.length - (i+1),by grind,rfl,h,(j.trans l).put k _,?_,o⟩;rw[zAf,List.length_singleton]; ext
  ·exact⟨l _ _ c,xs.length - (i+1),by grind,rfl,h,j.trans l,by lia,o⟩
 ·have e:i=xs.length:=by lia
  subst e;exact .inl ⟨⟨xs,q,y6 _⟩,C D ys H k j c B p⟩
theorem zP {lo:Int}{n:Nat}(hz:n<=PK)(f:Nat->List V->Hp->Prop)(z:∀D,H1 D=none->f 0 [] (upd H1 D (.lst [])))(t:∀D i ys H (r:VK) (s:Hp->Prop),H1 D=none->i < n->ah H1 H->H D=some (.lst ys)->f i ys H->(∀v l,ah H l->f (i+1) (ys++[v]) (upd l D (.lst (ys++[v])))->r v l)->(∀d,ah H d->f (i+1) ys d->s d)->g (.int (lo+i)) (dS ix σ) H λq u=>tf q u λb d=>if b=true then te q d r else s d)(w:∀D ys H,H1 D=none->ah H1 H->H D=some (.lst ys)->ys.length<=n->f n ys H->Q D H):cL (qF lo n) ix g tf te σ H1 Q:=by
 intro D h;refine⟨λi m ys H=>m=n - i/\i<=n/\ah H1 H/\ys.length<=i/\f i ys H,⟨n,by simp,zAb _,ah.new h _,y6 _,z D h⟩,?_⟩;rintro i m ys H ⟨rfl,C,k,A,p⟩ a;by_cases c:i < n
 ·refine .inr ⟨c,λx B y=>?_⟩;obtain⟨e,y⟩:=y;subst e; subst y;refine t D i ys _ _ _ h c k a p (λv l j o=>?_) λd j o=>?_
  ·refine⟨j _ _ a,by lia,n - (i+1),by grind,rfl,c,(k.trans j).put h _,?_,o⟩;rw[zAf,List.length_singleton]; lia
  ·exact⟨j _ _ a,n - (i+1),by grind,rfl,c,k.trans j,by lia,o⟩
 ·have e:i=n:=by lia
  subst e;exact .inl ⟨y6 _,w D ys H h k a A p⟩
theorem uW {α β:Type}(f:α->β)(xs:List α)(i:Nat)(x:α)(h:xs[i]?=some x):(xs.take (i+1)).map f=(xs.take i).map f++[f x]:=by rw[zAm,h];simp
theorem oA {a:M1}{xs:List V}{k:Nat}(f:V->V)(r:ay K H1 a xs)(hz:xs.length<=PK)(n:∀(i:Nat) (x:V) (H:Hp) (R:VK),xs[i]?=some x->ah H1 H->(∀e,ah H e->R (f x) e)->te ((dS ix σ).set k (some x)) H R)(o:∀D H,H1 D=none->ah H1 H->H D=some (.lst (xs.map f))->Q D H):cL (mW K a) ix (cz k) ly te σ H1 Q:=by
 refine qI r hz (λi d _=>d=(xs.take i).map f) (by simp) (λD i x d H q s h j c b p l u=>?_) λD d H h c b t p=>?_;·exact n i x H q j c λe m=>l _ _ m (by rw[uW f xs i x j,p])
 ·refine o D H h c ?_;rw[b,p,zAd]
theorem eS {lo:Int}{n e:Nat}(f:Nat->V)(hz:n<=PK)(j:∀(i:Nat) (H:Hp) (R:VK),i < n->ah H1 H->(∀a,ah H a->R (f i) a)->te ((dS ix σ).set e (some (.int (lo+i)))) H R)(r:∀D H,H1 D=none->ah H1 H->H D=some (.lst ((range n).map f))->Q D H):cL (qF lo n) ix (cz e) ly te σ H1 Q:=by
 refine zP hz (λi c _=>c=(range i).map f) (by simp) (λD i c H h t k m d b p o q=>?_) λD c H k d b s p=>?_;·exact j i H h m d λa l=>o _ _ l (by rw[zA2,v4,p]; rfl)
 ·ext
end
section
variable {X:Cx}
theorem zQ:∀{ys:List Str} {us:List Value},Vals (ys.map V.str) us->StrsAre us ys| [],_,h=>by cases h; exact .nil| y::ys,_,h=>by cases h with| cons r t=> obtain⟨a,rfl⟩:=r;exact .cons y a (zQ t)
noncomputable def rJoin (K:zzA):V->List V->Hp->VK->Prop:=λx vs H Q=>∃b a c,x=.str b/\vs=[.ref a]/\ay K H a (c.map V.str)/\(c.map (·.length)).sum+c.length * b.length<=16777216/\Q (.str (join b c)) H
theorem Rb:B8 X "str.join" (rJoin X.K):=by intro b s σ H x l v o Q I j e h;obtain⟨c,a,m,rfl,rfl,d,g,q⟩:=h;obtain⟨t,rfl⟩:=j;obtain⟨u,rfl,f⟩:=e.one;cases f;obtain⟨i,r,p,_⟩:=I.list d;exact join_list p.isList (by simpa using zQ r) g λn k=>⟨.str _,H,I.tok _,⟨_,rfl⟩,q⟩
theorem JN {h:Heap}{lo f st:Option Int}(j:h.IsSliceOf d e g vs)(k:zCF e lo)(i:zCF g f)(ps:zCF vs st) : ∃l u t,l.map (·.1)=lo/\u.map (·.1)=f/\t.map (·.1)=st/\h.IsSlice d l u t:=by
 obtain⟨o,b,a,c⟩:=j;cases k <;> cases i <;> cases ps;·exact⟨none,none,none,rfl,rfl,rfl,o,b,a,c⟩
 ·exact⟨none,none,some (_,_),rfl,rfl,rfl,o,b,a,c⟩
 ·exact⟨none,some (_,_),none,rfl,rfl,rfl,o,b,a,c⟩
 ·exact⟨none,some (_,_),some (_,_),rfl,rfl,rfl,o,b,a,c⟩
 ·exact⟨some (_,_),none,none,rfl,rfl,rfl,o,b,a,c⟩
 ·exact⟨some (_,_),none,some (_,_),rfl,rfl,rfl,o,b,a,c⟩
 ·exact⟨some (_,_),some (_,_),none,rfl,rfl,rfl,o,b,a,c⟩
 ·exact⟨some (_,_),some (_,_),some (_,_),rfl,rfl,rfl,o,b,a,c⟩
noncomputable def zR (x:Str)(lo a st:Option Int):Str:= if ((st.getD 1 == 1&&(Builtin.Str.strSliceIndices lo a (st.getD 1) x.length).length == x.length)=true) then x else ⟨((Builtin.Str.strSliceIndices lo a (st.getD 1) x.length).filterMap (x.cps[·]?)).toArray⟩
theorem La (x:Str)(lo a st:Option Int)(b:st.getD 1≠0):(zR x lo a st).length<=x.length:=by
 unfold zR;split;·simp
 ·exact zAv (List.length_filterMap_le _ _) (sliceIndicesBy_le _ _ _ b x.length)
theorem zS {a:zzC}{s:VV}{σ:St}{H:Hp}{x:Str}{t:Tok}{g:M1}{f e vs:Value}{lo b st:Option Int}{Q:VK}(I:Inv X a σ H s)(p:s.heap.IsSliceOf g f e vs)(o:zCF f lo)(j:zCF e b)(ps:zCF vs st)(m:st.getD 1≠0) (hz:x.length<=PK) (q:Q (.str (zR x lo b st)) H):zAC (zAD X.prog X.w) X.A (zCO (.str x t) (.ref g)) (EP X a σ Q) X.xe s:=by
 obtain⟨l,u,c,r,v,w,z⟩:=JN p o j ps;have d:(c.map (·.1)).getD 1=st.getD 1:=by ext
 have i:((c.map (·.1)).getD 1 == 0)=false:=by ext
 refine wpAny_getItem_str_slice z i ?_;have h:slicePicked x l u c=Builtin.Str.strSliceIndices lo b (st.getD 1) x.length:=by unfold slicePicked; ext
 unfold sliceMade;rw[h,d];exact post_val_or_str ⟨zAv (La x lo b st m) hz,λn k=>⟨.str _,H,I.tok _,⟨_,rfl⟩,q⟩⟩
variable {e:zAR}{te:TE}{pos p2 p3 p4:Pos}
noncomputable def ND (K:zzA)(te:TE):TE:=fun σ H Q=>te σ H λx b=>(∃y,x=.str y/\y.length<=PK/\Q (.str (zR y none none (some (-1)))) b)\/ ∃a d,x=.ref a/\ay K b a d/\∀p,b p=none->Q (.ref p) (upd b p (.lst d.reverse))
theorem Ca {α:Type}(xs:List α):∀k:Nat,(range k).filterMap (xs[·]?)=xs.take k| 0=>by simp| k+1=>by rw[zA2,List.filterMap_append,Ca xs k,zAm];rfl
theorem Rc (n:Nat):sliceRange ((n:Int) - 1) (-1) (-1)=(range n).reverse:=by
 unfold sliceRange;have a:(if ((n:Int) - 1) > -1 then ((n:Int) - 1 - -1 - -1 - 1) / (- -1) else 0)=n:=by grind
 rw[a];refine zCb (by simp) λi c b=>?_;ext;grind
theorem NG {α:Type}(xs:List α):((sliceRange ((xs.length:Int) - 1) (-1) (-1)).filterMap (xs[·]?))=xs.reverse:=by rw[Rc,List.filterMap_reverse,Ca,zAd]
theorem NH (its:List Value):slicePick its.toArray none none (some (-1))=its.reverse.toArray:=by unfold slicePick zCH;have e:=NG its;ext
theorem Tz (G:PE X e te):PE X (.Subscript e (.Slice none none (some (.UnaryOp .USub (.Constant (.int 1) j p4) p3)) p2) pos) (ND X.K te):=by
 intro c s σ H Q I h;refine zDa (aQ (G c s σ H _ I h) λv w k=>?_);obtain⟨x,m,C,o,D⟩:=k;refine wpAny_Slice ?_;refine y4 (y4 ?_);refine aQ (eF cY ao c w σ m (λy i=>y=.int _/\i=m) C ⟨1,rfl,rfl,rfl⟩) λM f k=>?_;obtain⟨y,i,B,z,E,u⟩:=k;subst E; subst u;obtain⟨l,rfl⟩:=z;have g:Inv X c σ i { f with heap:=f.heap.push { cls:=.type "slice",data:=.fields #[.none,.none,.int (-1) l] } }:=B.kept λb K q=>y1 _ q;have d:(f.heap.push { cls:=.type _,data:=.fields _ }).IsSliceOf f.heap.objs.size .none .none (.int (-1) l):=⟨_,u3 _ rfl,rfl,rfl⟩;rcases D with ⟨y,rfl,n,q⟩ | ⟨a,L,rfl,J,q⟩
 ·obtain⟨t,rfl⟩:=o;exact tail_any rfl F.slot_str_getitem.lookup (zS g d .none .none (.int _ _) (by decide) n q) (by rfl)
 ·cases o;obtain⟨A,r,p,n⟩:=g.list J;refine tail_any p.isList.typeIs slot_list_getitem.lookup (wpAny_getItem_list_slice p.isList d .none .none (.int _ _) (by decide) ?_ (by rw[zBf,<-r.length]; symm)) (by rfl);rw[NH];refine⟨.ref _,_,g.JK r.reverse (by ext),rfl,q _ g.fresh⟩
theorem NI:b_ X (.builtin "all") (λxs H Q=>X.calm=true/\∃(a:M1) (bs:List Bool),xs=[.ref a]/\ay X.K H a (bs.map V.bl)/\Q (.bl (bs.all λb=>b)) H):=by
 intro y s σ H xs O Q I r h;obtain⟨F,a,bs,rfl,A,q⟩:=h;obtain⟨u,rfl,C⟩:=vals1 r;cases C;obtain⟨d,w,p,N⟩:=I.list A;have c:=w.length;rw[yB] at c;refine call_all_walk (zCx p.isList ?_);have B:a≠s.heap.objs.size:=by obtain⟨o,n,e,_⟩:=p; exact wE (vT e)
 refine⟨s.heap.objs.size,_,_,_,_,_,λi=>(bs[i]?).getD true,rfl,Walks.list (by exact I.ok.hd F) s.heap.objs.size a B d.toArray,?_,?_,λK J k=>?_⟩;·exact⟨⟨_,u3 _ rfl,rfl,rfl⟩,p.isList.push _⟩
 ·intro i v G E M P l;have g:d[i]?=some v:=by ext
  have m:i < bs.length:=by grind
  obtain⟨L,f,t⟩:=w.get (i:=i) (x:=.bl bs[i]) (by simp);rw[g] at f;cases f;cases t;have j:E ((bs[i]?).getD true) G:=l;rw[y8 m] at j;exact zBo j
 ·have e:(range d.toArray.size).all (λi=>(bs[i]?).getD true)=bs.all λb=>b:=by
   rw[zBf,<-c];rw[zC6];simp only [zAj,zAk];constructor
   ·intro z b D;obtain⟨i,g,e⟩:=zA8.mp D;grind
   ·intro z i g;rw[y8 g];exact z _ (zCa g)
  rw[e];exact⟨.bl _,H,I.kept λb o e=>k b o (by simp; exact wE (vT e)) (y1 _ e),rfl,q⟩
noncomputable def TF (f:Nat->V)(n:Nat):It:=⟨λi _=>i < n,λi H x a=>a=H/\x=f i,λi _=>n<=i⟩
noncomputable def e_ (x:Str)(i:Nat):V:=.str ⟨#[x.cps.getD i 0]⟩
theorem Er {K:zzA}(a:M1)(g:String)(x:Str)(t:Tok)(v:["enumerate","zip","dict_itemiterator","dict_reverseitemiterator","odict_iterator","itertools.zip_longest","itertools.pairwise"].contains g=false)(O:∀(A:zAI) (s:VV) (i c:Nat) (Q:Option Value->VV->Prop) (E:zzE),s.heap.IsStrIter a g x t i->x.cps[i]?=some c->(∀h',h'.IsStrIter a g x t (i+1)->Heap.SameBut a s.heap h'->Q (some (.str ⟨#[c]⟩ s.toks)) { s with heap:=h',toks:=s.toks+1 })->zAC (zAD P w) A (zBU (.ref a)) Q E s)(U:∀(A:zAI) (s:VV) (i:Nat) (Q:Option Value->VV->Prop) (E:zzE),A.handled=none->s.heap.IsStrIter a g x t i->x.cps[i]?=none->(∀h',Heap.ExtBut a s.heap h'->Q none { s with heap:=h' })->zAC (zAD P w) A (zBU (.ref a)) Q E s)(ws:∀(A:zAI) (s:VV) (i:Nat) (Q:zzE) (E:zzE),s.heap.IsStrIter a g x t i->Q (.ref a) s->zAC (zAD P w) A (zDe (.ref a)) Q E s) : Turn P w K T (TF (e_ x) x.cps.size) [a] a (λi h=>h.IsStrIter a g x t i) where
 mem:=by simp
 obj:=λi h st b l=>by
  have e:b=a:=by ext
  subst e;obtain⟨o,e,c,d⟩:=st;ext
 keep:=λi h h' st k=>by obtain⟨o,e,r⟩:=st;exact⟨o,(by ext),r⟩
 item:=by
  intro X m u p J i f s σ H E I C st D;subst m u p;obtain⟨z,y,V,B,F,q⟩:=C a (by simp);have n:i < x.cps.size:=D;refine O X.A s i x.cps[i] _ _ st (by simp) λh' j L=>?_;have R:Inv X f σ H { s with heap:=h',toks:=s.toks+1 }:=I.turned (λb o l e=>(L.2 b l).trans e) z y B F q;obtain⟨o,e,M,S⟩:=id j;refine⟨_,rfl,zz (s:={ s with heap:=h',toks:=s.toks+1 }) e M S v ⟨e_ x i,H,R,⟨s.toks,?_⟩,⟨rfl,rfl⟩,j,(by ext)⟩⟩;have:x.cps.getD i 0=x.cps[i]:=by rw[zAn,zA5 n]; rfl
  rw[this]
 done:=by intro X m u p J i f s σ H E I C st D;subst m u p;obtain⟨z,y,V,B,F,q⟩:=C a (by simp);have n:x.cps.size<=i:=D;exact U X.A s i _ _ (I.ok.hd J) st (zCm n) λh' N=>⟨rfl,I.turned (t':=s.toks) (λb o l e=>N b o l e) z y B F q⟩
 self:=λA i s Q E st h=>ws A s i Q E st h
noncomputable def YS (a:TE):TI:=fun σ H R=>a σ H λx b=>∃y,x=.str y/\R (TF (e_ y) y.cps.size) b
theorem TH (w:PE X l p):PI X z l (YS p):=by
 intro a s σ H R I h;refine aQ (w a s σ H _ I h) λv f j=>?_;obtain⟨x,n,m,u,B⟩:=j;obtain⟨y,e,q⟩:=B;subst e;obtain⟨t,rfl⟩:=u;have g:∀(o:Obj),∀b∈[f.heap.objs.size],lR X a n b:=λo b C=>by
  have e:b=f.heap.objs.size:=by ext
  subst e;exact m.vA (y6 _) (m.hok.fresh (y6 _))
 cases r:y.cps.all _
 ·refine wpAny_pyIter_wide r ?_;exact⟨f.heap.objs.size,[f.heap.objs.size],_,_,n,rfl,m.kept λb o e=>y1 _ e, Er _ _ y t (by decide) (λA s i c Q E st d k=>wpAny_pyNext_wide_item st d k) (λA s i Q E j st d k=>wpAny_pyNext_wide_end j st d k) (λA s i Q E st k=>wpAny_pyIter_striter_wide st k),⟨_,u3 _ rfl,rfl,rfl⟩,g default,q⟩
 ·refine wpAny_pyIter_ascii r ?_;exact⟨f.heap.objs.size,[f.heap.objs.size],_,_,n,rfl,m.kept λb o e=>y1 _ e, Er _ _ y t (by decide) (λA s i c Q E st d k=>wpAny_pyNext_ascii_item st d k) (λA s i Q E j st d k=>wpAny_pyNext_ascii_end j st d k) (λA s i Q E st k=>wpAny_pyIter_striter_ascii st k),⟨_,u3 _ rfl,rfl,rfl⟩,g default,q⟩
noncomputable def Es (K:zzA)(a b:M1):It:=⟨λi H=>∃c d x y,ay K H a c/\ay K H b d/\c[i]?=some x/\d[i]?=some y, λi H v g=>∃t,v=.ref t/\H t=none/\∃x y,g=upd H t (.tup [x,y])/\(∀c,ay K H a c->c[i]?=some x)/\∀d,ay K H b d->d[i]?=some y, λi H=>∃c d,ay K H a c/\ay K H b d/\(c.length<=i\/d.length<=i)⟩
theorem Et {a b z TI TO d f:M1}(t:[z,TI,TO,d,f].Nodup)(hz:zDQ h z TI TO .none)(K:zAX h TI (.ref d) (.ref f))(n:zAX h TO u v)(w:h.IsListIter d a k1) (F:h.IsListIter f b k2) (p:PlainL h a xs) (p2:PlainL h b ys):zBZ z TI TO d f a b:=by
 obtain⟨W,m,L,S⟩:=w;obtain⟨J,l,G,Q⟩:=F;obtain⟨I,T,U,H,_,M⟩:=p;obtain⟨O,R,N,P,_,V⟩:=p2;ext;obtain⟨⟨B,A,i,k⟩,⟨y,s,E⟩,⟨D,C⟩,j⟩:=t;have g:∀{x:M1} {o:Obj},h.get? x=some o->o.cls≠.type "list"->a≠x:=λ{x o} e r q=>by ext
 have c:∀{x:M1} {o:Obj},h.get? x=some o->o.cls≠.type "list"->b≠x:=λ{x o} e r q=>by ext
 exact⟨Ne.symm B,Ne.symm A,Ne.symm i,Ne.symm k,y,s,E,D,C,j,g hz (by simp),g n (by simp),g m (by lia),g l (by lia),c hz (by simp),c n (by simp),c m (by lia),c l (by lia)⟩
theorem NJ {K:zzA}(a b z TI TO g j:M1)(W:[z,TI,TO,g,j].Nodup) : Turn P w K (.Tuple elts k pos) (Es K a b) [z,TI,TO,g,j] z (λi h=>zDQ h z TI TO .none/\zAX h TI (.ref g) (.ref j)/\(∃u v,zAX h TO u v)/\h.IsListIter g a i/\h.IsListIter j b i) where
 mem:=by simp
 obj:=λi h st c f=>by obtain⟨J,G,⟨u,v,S⟩,⟨o1,e1,c1,d1⟩,⟨o2,e2,c2,d2⟩⟩:=st;grind
 keep:=λi h h' st kk=>by obtain⟨J,G,⟨u,v,S⟩,M,L⟩:=st;exact⟨kk z (by simp) _ J,kk TI (by simp) _ G,(by grind),M.at (by grind),L.at (by ext)⟩
 item:=by
  intro X hP hw hK f i N s σ H E I l st hg;subst hP hw hK;refine hold λP_2 k_2=>?_;obtain⟨xs,ys,x,y,C,B,hx,hy⟩:=hg;obtain⟨J,G,⟨u0,v0,S⟩,M,L⟩:=id st;obtain⟨its,rv,p,_⟩:=I.list C;obtain⟨Y,R,p2,_⟩:=I.list B;obtain⟨u,hu,ru⟩:=rv.get hx;obtain⟨v,hv,TJ⟩:=R.get hy;refine k_2 ?_;have D:zBZ z TI TO g j a b:=Et W J G S M L p p2;refine wpAny_pyNext_zip_item D J G S M L p.isList p2.isList (x:=u) (y:=v) (by ext) (by ext) λh' a1 a2 a3 a4 a5 a6 kk=>?_;refine⟨_,rfl,zCW a1 λh'' b1 V=>?_⟩;have nT:∀c∈[z,TI,TO,g,j],c≠s.heap.objs.size:=λc f=>by obtain⟨o,e,_⟩:=(show ∀c∈[z,TI,TO,g,j],∃o,s.heap.get? c=some o/\True from λc f=>by simp only [u1,zAe,zA0] at f;obtain⟨o1,e1,_⟩:=M;obtain⟨o2,e2,_⟩:=L;grind) c f;exact wE (vT e)
  have U:H s.heap.objs.size=none:=I.fresh;have t:∀c o,c∉[z,TO,g,j]->s.heap.get? c=some o->h''.get? c=some o:=λc o f e=>by simp only [u1,zAe,zA0,not_or] at f;exact (V.2 c f.1).trans (by ext)
  have Q:∀c∈[z,TO,g,j],H c=none:=λc f=>by simp only [u1,zAe,zA0] at f;rcases f with rfl | rfl | rfl | rfl <;> exact (l _ (by simp)).1
  have I1:Inv X N σ (upd H s.heap.objs.size (.tup [x,y])) { s with heap:=h'' }:=by
   refine I.step (g':=s.gens) (d':=s.drawn) (t':=s.toks) (ch:=[z,TO,g,j]) (λc f=>?_) (λc o _ _ f e _=>t c o f e) (λc o _ _ f e _=>⟨o.slots,t c o f e⟩) (λc o f e n=>?_) (λc o f e=>⟨o,t c o f e⟩) (λc F e=>?_) (λc o F e=>?_) (λc F e=>⟨#[],?_⟩) (λm hm=>?_) (λc F e=>?_) I.bare
   ·simp only [u1,zAe,zA0] at f;have:c∈[z,TI,TO,g,j]:=by
     simp only [u1,zAe,zA0];rcases f with q | q | q | q;·exact .inl q
     ·exact .inr (.inr (.inl q))
     ·exact .inr (.inr (.inr (.inl q)))
     ·exact .inr (.inr (.inr (.inr q)))
    obtain⟨f0,f1,f2,f3,f4,f5⟩:=l c this;exact⟨f3,f1,f4,f5⟩
   ·rw[aD (wE (vT e))]; exact n
   ·rw[aD (aS e U)]; exact e
   ·rw[aD (aS e U)]; exact e
   ·rw[aD (aS e U),e]; rfl
   ·obtain⟨o,es,ep,ho,r⟩:=hm;refine⟨o,es,ep,t _ o (λq=>?_) ho,r⟩;simp only [u1,zAe,zA0] at q;rcases q with q | q | q | q;·exact (l z (by simp)).2.1 q.symm
    ·exact (l TO (by simp)).2.1 q.symm
    ·exact (l g (by simp)).2.1 q.symm
    ·exact (l j (by simp)).2.1 q.symm
   ·by_cases Xk:c=s.heap.objs.size
    ·subst Xk;rw[aq] at e;cases e;have e5:=(V.2 _ (Ne.symm (nT z (by simp)))).trans a5;exact⟨(by show 2<=PK; decide),[u,v],.cons ru (.cons TJ .nil),_,e5,rfl,_,rfl⟩
    ·rw[aD Xk] at e;refine (I.hok c F e).stay (λd w' hd q=>t d w' (λq2=>?_) q) (λd q=>?_) λd ws q=>?_
     ·have A:=Q d q2;rcases hd with O | O;·rw[O,e] at A; cases A
      ·rw[O] at A; cases A
     ·rw[aD (aS q U)]; exact q
     ·rw[aD (aS q U)]; exact q
  refine⟨.ref s.heap.objs.size,_,I1,rfl,⟨_,rfl,U,x,y,rfl,λzs T=>by rw[I.pM T C]; exact hx,λzs T=>by rw[I.pM T B]; exact hy⟩,?_,λc f=>?_⟩
  ·refine⟨b1,?_,⟨u,v,?_⟩,?_,?_⟩;·exact t TI _ (by simp only [zB6,u1,zAe,zA0,not_or] at W ⊢; exact⟨λq=>W.1.1 q.symm,W.2.1⟩) G
   ·exact (V.2 _ D.TOz).trans a2
   ·exact a3.extBut V.extBut D.i1z
   ·exact a4.extBut V.extBut D.i2z
  ·rw[aD (nT c f)]; exact (l c f).1
 done:=by
  intro X hP hw hK f i N s σ H E I l st hg;subst hP hw hK;refine hold λZ0 TM=>?_;obtain⟨xs,ys,C,B,Z⟩:=hg;obtain⟨J,G,⟨u0,v0,S⟩,M,L⟩:=id st;obtain⟨its,rv,p,_⟩:=I.list C;obtain⟨Y,R,p2,_⟩:=I.list B;refine TM ?_;have D:zBZ z TI TO g j a b:=Et W J G S M L p p2;have l1:=rv.length;have l2:=R.length;refine wpAny_pyNext_zip_end (I.ok.hd f) D J G S M L p.isList p2.isList (Z.imp (λq=>by simp; ext) λq=>by simp; ext) λh' kk=>⟨rfl,?_⟩;have t:∀c o,c∉[z,TO,g,j]->s.heap.get? c=some o->h'.get? c=some o:=λc o f e=>by simp only [u1,zAe,zA0,not_or] at f;exact kk c o f.1 f.2.1 f.2.2.1 f.2.2.2 e
  have Q:∀c∈[z,TO,g,j],H c=none:=λc f=>by simp only [u1,zAe,zA0] at f;rcases f with rfl | rfl | rfl | rfl <;> exact (l _ (by simp)).1
  refine I.step (g':=s.gens) (d':=s.drawn) (t':=s.toks) (ch:=[z,TO,g,j]) (λc f=>?_) (λc o _ _ f e _=>t c o f e) (λc o _ _ f e _=>⟨o.slots,t c o f e⟩) (λc o f e n=>n) (λc o f e=>⟨o,t c o f e⟩) (λc F e=>e) (λc o F e=>e) (λc F e=>⟨#[],by rw[e]; rfl⟩) (λm hm=>?_) (λc F e=>?_) I.bare
  ·simp only [u1,zAe,zA0] at f;have:c∈[z,TI,TO,g,j]:=by
    simp only [u1,zAe,zA0];rcases f with q | q | q | q;·exact .inl q
    ·exact .inr (.inr (.inl q))
    ·exact .inr (.inr (.inr (.inl q)))
    ·exact .inr (.inr (.inr (.inr q)))
   obtain⟨f0,f1,f2,f3,f4,f5⟩:=l c this;exact⟨f3,f1,f4,f5⟩
  ·obtain⟨o,es,ep,ho,r⟩:=hm;refine⟨o,es,ep,t _ o (λq=>?_) ho,r⟩;simp only [u1,zAe,zA0] at q;rcases q with q | q | q | q;·exact (l z (by simp)).2.1 q.symm
   ·exact (l TO (by simp)).2.1 q.symm
   ·exact (l g (by simp)).2.1 q.symm
   ·exact (l j (by simp)).2.1 q.symm
  ·refine (I.hok c F e).stay (λd w' hd q=>t d w' (λq2=>?_) q) (λd q=>q) λd ws q=>q;have A:=Q d q2;rcases hd with O | O;·rw[O,e] at A; cases A
   ·rw[O] at A; cases A
 self:=λ_ _ _ _ _ st h=>zCG st.1 h
noncomputable def JO (K:zzA)(i:TA):TI:=fun σ H R=>i σ H λf d=>∃a b,f=[.ref a,.ref b]/\(∃h,ay K d a h)/\(∃g,ay K d b g)/\R (Es K a b) d
theorem TN (L:Gl X "zip")(E:X.mg "zip"=none)(C:PA X [a,b] n)(hs:zAG [a,b] X.env=[(false,zAM a X.env),(false,zAM b X.env)]:=by rfl)(l:zAG [b] X.env=[(false,zAM b X.env)]:=by rfl) : PI X (.Tuple f k d) (.Call (.Name "zip" p) [a,b] [] pos) (JO X.K n):=by
 intro j s σ H R I h;refine Call_ (nO I L E boot_zip (zBi (aQ (C pos j s σ H _ I h) λZ c ⟨W,J,i,F,O⟩=>?_) (by ext) (by rw[l]; rfl)));obtain⟨x,y,e,⟨P,A⟩,⟨V,G⟩,q⟩:=O;subst e;obtain⟨u,v,rfl,K,B⟩:=vals2 F;cases K;cases B;obtain⟨z,w,N,_⟩:=i.list A;obtain⟨m,D,t,_⟩:=i.list G;refine call_zip_2 N.isList t.isList λT M a2 S Y Q a6 r=>zCG M ?_;refine⟨c.heap.objs.size+4,[c.heap.objs.size+4,c.heap.objs.size+2,c.heap.objs.size+3,c.heap.objs.size,c.heap.objs.size+1],_,_,J,rfl,i.kept r,NJ x y _ _ _ _ _ ?_,(by grind),λb U=>?_,q⟩;·simp
 ·have o:c.heap.objs.size<=b:=by grind
  exact i.vA o (i.hok.fresh o)
end
structure yb (P:zAA)(w:zAE)(outer:List Env)(H:Hp)(s:VV)(a:M1)(cls a0:Value)(B:Heap)(H':Hp)(s':VV):Prop where
 os:s'.os=s.os
 bare:zCN s'.gens
 un:Un (frs outer) [] H H' s.heap s'.heap
 hok:fW P w H' s'.heap
 new:s.heap.get? a=none
 out:H' a=none
 Pc:Heap.FlyingW B outer a cls a0 s'.heap
 TQ:∀b o,s.heap.get? b=some o->b∉frs outer->∃o',B.get? b=some o'
 Xl:∀b u,H' b=some u->∃o',B.get? b=some o'
theorem bI.obj (x:bI P w H h a o):∃b,h.get? a=some b:=by cases o with| lst d=>obtain⟨_,_,_,_,e⟩:=x; ext| tup d=>obtain⟨_,_,_,b,e,_⟩:=x; ext| dK c=>obtain⟨_,_,_,_,o,_,_,e,_⟩:=x; ext| dT c=>obtain⟨_,_,_,_,o,_,_,e,_⟩:=x; ext| set S n=>obtain⟨o,_,_,_,e,_⟩:=x; ext| ins C i g=>obtain⟨_,_,_,e,_⟩:=x; ext| own y=>symm| xd g=>obtain⟨_,⟨_,_,_,e,_⟩,_⟩:=x; ext| O3 lo k=>obtain⟨_,_,_,e⟩:=x; ext| jo b u=>obtain⟨e,_⟩:=x; ext| BS j=>exact⟨_,‹_›⟩| met f y=>exact⟨_,‹_›⟩| ext φ=>obtain⟨_,e,_⟩:=x; symm
noncomputable def nS (P:zAA)(w:zAE):uT:=λb H s E e g=>∃(a:M1) (c f:Value) (B:Heap) (d:Hp),e=.ref a/\yb P w b H s a c f B d g/\E c none d
section
variable {P:zAA}{w:zAE}{outer:List Env}{H H':Hp}{s s':VV}{a:M1}{cls a0:Value}{B h5:Heap}
theorem yb.Pd (F:yb P w outer H s a cls a0 B H' s'):∀b∈frs outer,B.get? b=none/\∃o,s'.heap.get? b=some o/\∀vs,o.data≠.fields vs:=λb c=>F.Pc.2.2.1.mem c
theorem yb.un' (F:yb P w outer H s a cls a0 B H' s')(st:B.StaysIn h5)(us:s'.heap.UpToSlots h5):Un (frs outer) [] H H' s.heap h5 where
 keep:=λb o e n d j=>by have h:=F.un.keep b o e n d j;obtain⟨i,c⟩:=F.TQ b o e d;have f:=F.Pc.1 b i c;rw[h] at f;cases f;exact st b o c
 slot:=λb o e n d j=>by obtain⟨m,h⟩:=F.un.slot b o e n d j;obtain⟨_,l,c,k⟩:=F.Pd b d;rw[h] at c;cases c;obtain⟨g,f⟩:=us b _ h k;exact⟨g,f⟩
 free:=F.un.free;there:=λb o e j=>by
  by_cases d:b∈frs outer
  ·obtain⟨_,l,c,k⟩:=F.Pd b d;obtain⟨g,f⟩:=us b _ c k;exact⟨_,f⟩
  ·obtain⟨i,c⟩:=F.TQ b o e d;exact⟨i,st b i c⟩
 tups:=F.un.tups;ng:=F.un.ng;oj:=F.un.oj
theorem yb.YT (F:yb P w outer H s a cls a0 B H' s')(st:B.StaysIn h5):fW P w H' h5:=λb u e=>by
 refine (F.hok b u e).stay (λc v i q=>?_) (by simp) (by simp);have:∃d,H' c=some d:=by grind
 obtain⟨d,z⟩:=this;obtain⟨h,g⟩:=F.Xl c d z;have f:=F.Pc.1 c h g;rw[q] at f;cases f;exact st c v g
end
section
variable {X:Cx}{pins:zzC}{σ:St}{H H':Hp}{s s':VV}{a:M1}{cls a0:Value}{B:Heap}{M:Model}{E:zzE}{Q:Unit->VV->Prop}
theorem Lb (I:Inv X pins σ H s)(C:X.ex=[])(g:X.stack=X.env::X.outer)(l:X.env.frame=some X.env.locals)(F:yb X.prog X.w X.stack H s a cls a0 B H' s')(h:∀k,yb X.prog X.w X.outer X.H₀ X.s₀ a cls a0 B H' k->Q () k):zAC M X.A (leaving X.env (.ref a)) Q E s':=by
 have D:Heap.FlyingW B (X.env::X.outer) a cls a0 s'.heap:=g ▸ F.Pc;refine wpAny_leaves_onW (by rw[I.ok.frames,g]) l D λK i J=>h _ ?_;have u:=F.un' i.1 J;have m:∀b,b∈frs X.stack↔b=X.env.locals\/b∈X.fs:=λb=>by rw[g];unfold frs;rw[List.filterMap_cons,l];exact u1
 have x:∀b o,X.s₀.heap.get? b=some o->b≠X.env.locals:=λb o e=>wE (wS (vT e) I.ok.above);have f:∀b,b∉X.ex:=λb=>by rw[C]; simp
 have p:∀b o,X.s₀.heap.get? b=some o->b∉X.fs->b∉frs X.stack:=λb o e d z=>by
  rcases (m b).mp z with q | q;·exact x b o e q
  ·exact d q
 refine⟨F.os.trans I.os,F.bare,⟨λb o e n d _=>?_,λb o e n d _=>?_,λb o e n _=>?_,λb o e _=>?_,λb w e=>u.tups b w (I.base.tups b w e),λb o v e=>u.ng b o v (I.base.ng b o v e),λb G e=>?_⟩,F.YT i.1,?_,F.out,i,λb o e d=>?_,F.Xl⟩;·exact u.keep b o (I.base.keep b o e n d (f b)) (I.base.free b o e n (f b)) (p b o e d) ‹_›
 ·obtain⟨L,c⟩:=I.base.slot b o e n d (f b);obtain⟨r,t⟩:=u.slot b _ c (I.base.free b o e n (f b)) ((m b).mpr (.inr d)) ‹_›;exact⟨r,t⟩
 ·obtain⟨j,c⟩:=I.base.there b o e (f b);exact u.free b j c (I.base.free b o e n (f b)) ‹_›
 ·obtain⟨j,c⟩:=I.base.there b o e (f b);exact u.there b j c ‹_›
 ·obtain⟨y,c⟩:=I.base.oj b G e;obtain⟨A,t⟩:=u.oj b _ c;exact⟨y++A,by rw[t,Array.append_assoc]⟩
 ·cases q:X.s₀.heap.get? a with| none=>rfl| some o=> obtain⟨j,c⟩:=I.base.there a o q (f a);rw[F.new] at c; cases c
 ·obtain⟨j,c⟩:=I.base.there b o e (f b);exact F.TQ b j c (p b o e d)
theorem NL {S:Heap}{D:List Value}(I:Inv X pins σ H s)(Y:X.ex=[])(j:X.stack=X.env::X.outer)(x:X.env.frame=some X.env.locals)(L:Heap.MadeExcOf s.heap S a cls D)(h:∀B a0 G,yb X.prog X.w X.outer X.H₀ X.s₀ a cls a0 B H G->Q () G):zAC M X.A (leaving X.env (.ref a)) Q E { s with heap:=S }:=by
 have A:s.heap.FunFrames X.base (X.env::X.outer):=j ▸ I.stack;have N:∀l∈(X.env::X.outer),∀b,l.frame=some b->b∈frs X.stack:=λl he b f=>by rw[j]; exact List.mem_filterMap.mpr ⟨l,he,f⟩
 refine wpAny_leaves_madeW (base:=PySem.W.hideAll s.heap (frs X.stack)) (h:=s.heap) (by rw[I.ok.frames,j]) x (λb o q=>PySem.W.of_hideAll _ q) (PySem.W.funFrames_hide A N) L λT t r _ _ us=>h (PySem.W.hideAll s.heap (frs X.stack)) (.ref t) _ ?_;have F:∀b,b∈frs X.stack↔b=X.env.locals\/b∈X.fs:=λb=>by rw[j];unfold frs;rw[List.filterMap_cons,x];exact u1
 have Z:∀b o,X.s₀.heap.get? b=some o->b≠X.env.locals:=λb o e=>wE (wS (vT e) I.ok.above);have m:∀b,b∉X.ex:=λb=>by rw[Y]; simp
 have w:∀b o,X.s₀.heap.get? b=some o->b∉X.fs->b∉frs X.stack:=λb o e f z=>by
  rcases (F b).mp z with q | q;·exact Z b o e q
  ·exact f q
 have g:∀b o,s.heap.get? b=some o->b∉frs X.stack->(PySem.W.hideAll s.heap (frs X.stack)).get? b=some o:=λb o e f=>PySem.W.hideAll_get _ e f;have R:∀b u,H b=some u->∃o,s.heap.get? b=some o/\b∉frs X.stack:=λb u e=>by obtain⟨W,q⟩:=(I.hok b u e).obj;refine⟨W,q,λz=>?_⟩;rw[I.xw b z] at e; cases e
 have O:∀b o,s.heap.get? b=some o->b∉frs X.stack->T.get? b=some o:=λb o e f=>r.1 b o (g b o e f);have J:∀b o,s.heap.get? b=some o->b∈frs X.stack->∃P,T.get? b=some { o with slots:=P }:=λb o e f=>by obtain⟨_,o2,k,V⟩:=I.stack.mem f;rw[e] at k; cases k;exact us b o (L.keeps b o e) V
 refine⟨I.os,I.bare,⟨λb o e n f _=>?_,λb o e n f _=>?_,λb o e n _=>I.base.free b o e n (m b),λb o e _=>?_,I.base.tups,I.base.ng,I.base.oj⟩,λb u e=>?_,?_,?_,r,λb o e f=>?_,λb u e=>?_⟩;·exact O b o (I.base.keep b o e n f (m b)) (w b o e f)
 ·obtain⟨P,i⟩:=I.base.slot b o e n f (m b);obtain⟨C,k⟩:=J b _ i ((F b).mpr (.inr f));exact⟨C,k⟩
 ·obtain⟨p,i⟩:=I.base.there b o e (m b);by_cases f:b∈frs X.stack
  ·obtain⟨C,k⟩:=J b _ i f;exact⟨_,k⟩
  ·exact⟨p,O b p i f⟩
 ·refine (I.hok b u e).stay (λc v U q=>?_) (λ_ q=>q) λ_ _ q=>q;refine O c v q λz=>?_;have K:=I.xw c z;rcases U with y | y;·rw[y,e] at K; cases K
  ·rw[y] at K; cases K
 ·cases q:X.s₀.heap.get? a with| none=>rfl| some o=> obtain⟨p,i⟩:=I.base.there a o q (m a);rw[L.new] at i; cases i
 ·cases q:H a with| none=>rfl| some u=> obtain⟨o,e,_⟩:=R a u q;rw[L.new] at e; cases e
 ·obtain⟨p,i⟩:=I.base.there b o e (m b);exact⟨p,g b p i (w b o e f)⟩
 ·obtain⟨o,i,k⟩:=R b u e;exact⟨o,g b o i k⟩
end
structure Dq (K:zzA)(mg:Str->Option Value)(x:Str)(C:M1):Prop where
 mg:mg x=some (.ref C)
 ok:PySem.W.excIn K C [.type "ValueError",.type "Exception",.type "BaseException",.type "object"] "ValueError.__new__"=true
theorem Rf {K:zzA}(X:K.In h)(q:PySem.W.excIn K C c b=true) : ∃f N nm g bs hdct sn sub ab col dd k0 k1 k2 k3 k5 k,h.get? C=some (excClassObj nm g C N bs f hdct sn sub ab col dd k0 k1 k2 k3 k5 b)/\h.Ns N k/\k "__init__"=none/\OwnTail h c f:=by
 unfold PySem.W.excIn at q;split at q
 ·rename_i dd p s u;split at q
  ·rename_i A f k0 k1 k2 k3 n k5 o r;simp at q;obtain⟨⟨⟨⟨⟨m,t⟩,d⟩,v⟩,e⟩,i⟩:=q;subst m; subst t;obtain⟨nm,bs,x,w,g,y,sn,sub,ab,col,z⟩:=p;subst o; subst d;obtain⟨l⟩:=s;have j:=r;subst j;exact⟨f,w,nm,g,bs,y,sn,sub,ab,col,dd,k0,k1,k2,k3,k5,_,X _ _ u,.of_isNs (PySem.W.isNs_of_in X e),PySem.W.nsMap_none_of_in X e i,PySem.W.tail_of_in X v⟩
  ·cases q
 ·cases q
noncomputable def Eu (X:Cx)(E:XK):Prop:=∀e b,zAC (zAD X.prog X.w) X.A (leaving X.env e) (λ_ a=>nS X.prog X.w X.outer X.H₀ X.s₀ E e a) (λc a=>nS X.prog X.w X.outer X.H₀ X.s₀ E c a) b->X.xe e b
section
variable {X:Cx}{E E':XK}{x:Str}{C:M1}{e₀:zAR}{rest:List zAR}{ta:TA}{np cpos pos:Pos}
noncomputable def TR (C:M1)(E:XK)(ta:TA):TS:=λ_ σ H=>ta σ H λa b=>a.length<=PK/\E (.ref C) none b
theorem Ew (o:Eu X E)(p:X.ex=[])(j:X.stack=X.env::X.outer)(f:X.env.frame=some X.env.locals)(J:X.calm=true)(K:Dq X.K X.mg x C)(G:Gl X x)(n:PA X (e₀::rest) ta)(k:zAG (e₀::rest) X.env=(false,zAM e₀ X.env)::zAG rest X.env:=by rfl) (O:(zAW cpos (zAG rest X.env)).any (·.1)=false:=by rfl) (m:(x == ("__debug__":Str))=false:=by decide) : PS X (.Raise (some (.Call (.Name x np) (e₀::rest) [] cpos)) none pos) (TR C E ta):=by intro b s σ H D I h;refine hold λL d=>?_;obtain⟨S,N,nm,l,bs,hdct,sn,sub,ab,col,dd,k0,k1,k2,k3,k5,R,w,M,g,T⟩:=Rf I.mod.HS K.ok;refine d ?_;refine wpAny_Raise_call_subU (nm:=nm) (q:=l) (N:=N) (bs:=bs) (hdct:=hdct) (sn:=sn) (sub:=sub) (ab:=ab) (col:=col) (dd:=dd) (k0:=k0) (k1:=k1) (k2:=k2) (k3:=k3) (k5:=k5) PySem.F.excBase_ValueError rfl PySem.F.excBase_ValueError (T.hasType PySem.F.excBase_ValueError.hasBase) (I.ok.hd J) (by rw[k]; symm) g (sG I G K.mg ⟨rfl,?_⟩ m);have r:=n cpos b s σ H _ I h;rw[k] at r ⊢;refine zCz (aQ r λW Q v=>?_);obtain⟨V,A,c,u,U,q⟩:=v;refine⟨rfl,by rw[<-u.length]; symm,c.bk _ _ w,M.keeps c.bk,T.keeps c.bk,λP e t=>o _ _ ?_⟩;exact NL c p j f t λB z y F=>⟨e,_,z,B,A,rfl,F,q⟩
theorem A9 (m:Eu X E)(k:X.ex=[])(g:X.stack=X.env::X.outer)(f:X.env.frame=some X.env.locals)(j:∀c d H',E' c d H'->E c d H'):Passes (nS X.prog X.w) X E':=by intro i σ H s e p I h;obtain⟨a,b,l,B,H',rfl,F,q⟩:=h;exact m _ _ (Lb I k g f F λo n=>⟨a,b,l,B,H',rfl,n,j _ _ _ q⟩)
end
theorem nR.Pe {K:zzA}{st:zAL}(F:nR K x b st f l)(S:aN N ps (aE st))(e:∀vs H Q E,sp vs H Q E->vs.length=ps.length)(d:∀(c:Value) (A:zAI) (a:List Env) (s:VV) (H:Hp) (vs:List V) (Q:VK) (E:XK),cN k (A.deeper (zDL b (aE st) s.heap.objs.size f c))->sp vs H Q E-> ∃t,sE (vG (nS P w) P w K j base N b (aE st) f c A a s H E) (fq st) t/\t { nx:=λ_ H'=>Q .bq H',rt:=Q } (start N vs) H):aL P w K j base (nS P w) (k+1) f l ps sp:=by obtain⟨u,v,kV,o,y,r,c,q,p,rfl,m,i⟩:=F.ex;exact Pa m i S e λA a s H vs Q E n g=>d c A a s H vs Q E n g
theorem vL {K:zzA} : Eu (vG (nS P w) P w K g base N c b f e A a s H E) E:=λ_ _ h=>h
section
variable {X:Cx}{pins:zzC}{σ:St}{H:Hp}{s:VV}{E:zzE}{a:M1}
end
section
variable {X:Cx}{QC:Value}{x n:Str}{i:Nat}{body suite:List zAL}{b₀:zAL}{tb:XK->TS}{ts:TS}{np hpos pos:Pos}
end
inductive Dt where| bq | bl (b:Bool) | int (i:Int) | str (x:Str) | lst (ds:List Dt) | tup (ds:List Dt)
mutual noncomputable def Rep (K:zzA)(H:Hp):Dt->V->Prop| .bq,v=>v=.bq| .bl b,v=>v=.bl b| .int i,v=>v=.int i| .str x,v=>v=.str x| .lst ds,v=>∃a xs,v=.ref a/\ay K H a xs/\aJ K H ds xs| .tup ds,v=>∃a xs,v=.ref a/\aG K H a xs/\aJ K H ds xs noncomputable def aJ (K:zzA)(H:Hp):List Dt->List V->Prop| [],xs=>xs=[]| d::ds,xs=>∃x r,xs=x::r/\Rep K H d x/\aJ K H ds r end
mutual theorem Rep.same {K:zzA}{H H':Hp}(e:ah H H'):∀{d:Dt} {v:V},Rep K H d v->Rep K H' d v| .bq,_,h=>by unfold Rep at h ⊢; exact h| .bl _,_,h=>by unfold Rep at h ⊢; exact h| .int _,_,h=>by unfold Rep at h ⊢; exact h| .str _,_,h=>by unfold Rep at h ⊢; exact h| .lst ds,_,h=>by unfold Rep at h ⊢;obtain⟨a,xs,rfl,q,r⟩:=h;exact⟨a,xs,rfl,e.seq q,aJ.same e r⟩| .tup ds,_,h=>by unfold Rep at h ⊢;obtain⟨a,xs,rfl,q,r⟩:=h;exact⟨a,xs,rfl,e.tup q,aJ.same e r⟩;theorem aJ.same {K:zzA}{H H':Hp}(e:ah H H'):∀{ds:List Dt} {vs:List V},aJ K H ds vs->aJ K H' ds vs| [],_,h=>by unfold aJ at h ⊢; exact h| d::ds,_,h=>by unfold aJ at h ⊢;obtain⟨x,r,rfl,q,t⟩:=h;exact⟨x,r,rfl,Rep.same e q,aJ.same e t⟩;end
theorem aJ.length {K:zzA}:∀{b:List Dt} {vs:List V},aJ K H b vs->vs.length=b.length| [],_,h=>by unfold aJ at h; ext| d::b,_,h=>by obtain⟨x,r,rfl,q,t⟩:=h;rw[zBw,zBw,aJ.length t]
section
variable {X:Cx}{pins:zzC}{σ:St}{H:Hp}{s:VV}
end
section
variable {X:Cx}
end
structure JP (K:zzA)(C:M1):Prop where
 ga:PySem.W.findIn K (.ref C) "__getattribute__"=some (some (.builtin "BaseException.__getattribute__"))
 gt:PySem.W.findIn K (.ref C) "__getattr__"=some none
 cl:PySem.W.findIn K (.ref C) "__class__"=some (some (.builtin "object.__class__"))
 mb:PySem.W.mroIn K C (.type "BaseException")=some true
 mo:PySem.W.mroIn K C (.type "object")=some true
section
open PySem.W
variable {K:zBQ}{prog:zAA}{w:zAE}{A:zAI}{E:zzE}{h:Heap}{g:Array GenState}{d:Drawn}{t:Nat}{os:OsState}{a C:M1}{o:Obj}
end
section
variable {X:Cx}
end
structure Def (K:zzA)(mg:Str->Option Value)(x:Str)(st:zAL)(f:M1)(fd:zAF)(ps:List Str):Prop where
 fn:nR K x x st f fd
 bd:Binds K fd ps []
 mg:mg x=some (.ref f)
section
variable {X:Cx}{CX:uT}{k:Nat}{f:M1}{fd:zAF}{ps:List Str}{sp:Sp}{E:XK}{x:Str}{st:zAL}{p pos:Pos}{e:zAR}{es:List zAR}{t:TA}
theorem NN (D:Def X.K X.mg x st f fd ps)(F:aL X.prog X.w X.K X.mg X.base CX k f fd ps sp)(d:cN k X.A)(c:Passes CX X E)(i:PA X (e::es) t)(h:Gl X x:=by rfl)(a:(x == ("__debug__":Str))=false:=by decide) (g:zAG (e::es) X.env=(false,zAM e X.env)::zAG es X.env:=by rfl) (b:(zAW pos (zAG es X.env)).any (·.1)=false:=by rfl) : PE X (.Call (.Name x p) (e::es) [] pos) (oW sp [] E t):=Q2 F d h D.mg D.fn.kp D.bd .nil c i a g b
end
section
variable {K:zzA}{ix:List (Option Nat)}{te:TE}{σ:St}{H1:Hp}{Q:M1->Hp->Prop}
theorem Ey {l:Nat->V}{n j:Nat}(f:Nat->V)(hz:n<=PK)(o:∀(i:Nat) (H:Hp) (R:VK),i < n->ah H1 H->(∀d,ah H d->R (f i) d)->te ((dS ix σ).set j (some (l i))) H R)(q:∀D H,H1 D=none->ah H1 H->H D=some (.lst ((range n).map f))->Q D H):cL (TF l n) ix (cz j) ly te σ H1 Q:=by
 intro D g;refine⟨λi m k H=>m=n - i/\i<=n/\ah H1 H/\k=(range i).map f,⟨n,by simp,zAb _,ah.new g _,by rfl⟩,?_⟩;rintro i m k H ⟨rfl,r,c,p⟩ b;by_cases a:i < n
 ·refine .inr ⟨a,λx s y=>?_⟩;obtain⟨e,y⟩:=y;subst e; subst y;refine o i _ _ a c λd h=>?_;refine⟨h _ _ b,?_,n - (i+1),by grind,rfl,a,(c.trans h).put g _,?_⟩;·rw[p,yB,zBn]; lia
  ·rw[p,zA2,v4]; rfl
 ·have e:i=n:=by lia
  subst e;exact .inl ⟨y6 _,q D H g c (by rw[b,p])⟩
end
noncomputable def Gv (t:TE)(σ:St)(H:Hp)(v:V):Prop:=∀R:VK,(∀a,ah H a->R v a)->t σ H R
noncomputable def Gt (t:TT)(σ:St)(H:Hp)(b:Bool):Prop:=∀R:Bool->Hp->Prop,(∀a,ah H a->R b a)->t σ H R
noncomputable def Ga (t:TA)(σ:St)(H:Hp)(vs:List V):Prop:=∀R:List V->Hp->Prop,(∀a,ah H a->R vs a)->t σ H R
section
variable {σ:St}{H:Hp}{ta tb tc te:TE}{t u:TT}{tt:TA}{v x y:V}{p q b:Bool}{i j k:Int}
theorem aa (h:σ[n]?=some (some v):=by rfl):Gv (cF n) σ H v:=λR r=>⟨v,h,r H (ah.refl H)⟩
theorem az:Gv (tC v) σ H v:=λR r=>r H (ah.refl H)
theorem fN {R:VK}(h:Gv te σ H v)(r:∀H',ah H H'->R v H'):te σ H R:=h R r
theorem aR (h:Gv te σ H x)(e:x=y):Gv te σ H y:=e ▸ h
theorem di (h:Gt t σ H p)(e:p=q):Gt t σ H q:=e ▸ h
theorem nU (h:Gt t σ H b):Gt (SW t) σ H (!b):=λR r=>h _ ‹_›
theorem Lc (h:Gt t σ H p)(g:p=true->∀H',ah H H'->Gt u σ H' q):Gt (SV t u) σ H (p&&q):=λR r=>h _ λH' s=>by cases p with| true=>exact g rfl H' s _ λc a=>r c (s.trans a)| false=>exact r H' s
theorem ug (h:Gt t σ H p)(g:p=false->∀H',ah H H'->Gt u σ H' q):Gt (O7 t u) σ H (p||q):=λR r=>h _ λH' s=>by cases p with| true=>exact r H' s| false=>exact g rfl H' s _ λc a=>r c (s.trans a)
theorem bF (h:Gv te σ H (.bl b)):Gt (qG te) σ H b:=λR r=>h _ (by ext)
theorem dY (h:Gv te σ H (.bl b)):Gt (tB te) σ H b:=λR r=>h _ (by ext)
theorem zT (h:Gv ta σ H (.bl p))(g:p=true->∀H',ah H H'->Gv tb σ H' (.bl q)):Gv (O8 ta tb) σ H (.bl (p&&q)):=λR r=>h _ λH' s=>by refine⟨p,rfl,?_⟩;cases p with| true=>exact g rfl H' s _ λc a=>r c (s.trans a)| false=>exact r H' s
theorem sU (h:Gv ta σ H v):Gv (SS ta) σ H (.bl (decide (v=.bq))):=λR r=>h _ ‹_›
theorem aO (h:Gv ta σ H (.int i))(g:∀H',ah H H'->Gv tb σ H' (.int j)):Gv (cT (oM f) ta tb) σ H (f i j):=λR r=>h _ λH' s=>g H' s _ λc a=>⟨i,j,rfl,rfl,r c (s.trans a)⟩
theorem bA {C:Int->Int->Prop}{f:Int->Int->V}(h:Gv ta σ H (.int i))(g:∀H',ah H H'->Gv tb σ H' (.int j))(d:C i j):Gv (cT (rI C f) ta tb) σ H (f i j):=λR r=>h _ λH' s=>g H' s _ λa c=>⟨i,j,rfl,rfl,d,r a (s.trans c)⟩
theorem dz (h:Gv ta σ H x)(g:∀H',ah H H'->Gv tb σ H' y)(c:D_ x y=true):Gv (cT Ea ta tb) σ H (.bl (decide (x=y))):=λR r=>h _ λH' s=>g H' s _ λd a=>⟨c,r d (s.trans a)⟩
theorem vM (h:Gv ta σ H x)(g:∀H',ah H H'->Gv tb σ H' y)(c:D_ x y=true):Gv (cT Tc ta tb) σ H (.bl (!decide (x=y))):=λR r=>h _ λH' s=>g H' s _ λd a=>⟨c,r d (s.trans a)⟩
theorem uh {f g:Int->Int->Bool}(o:Gv ta σ H (.int i))(s:∀H',ah H H'->Gv tb σ H' (.int j))(l:∀H',ah H H'->Gv tc σ H' (.int k)):Gv (Eb (oM λi j=>.bl (f i j)) (oM λi j=>.bl (g i j)) ta tb tc) σ H (.bl (f i j&&g j k)):= λR r=>o _ λm a=>s m a _ λd c=>⟨i,j,rfl,rfl,f i j,rfl,by cases e:f i j with| true=>rw[e] at r; exact l d (a.trans c) _ λn h=>⟨j,k,rfl,rfl,by exact r n ((a.trans c).trans h)⟩| false=>rw[e] at r; exact r d (a.trans c)⟩
theorem TU:Ga dR σ H []:=λR r=>r H (ah.refl H)
theorem au (h:Gv te σ H v)(g:∀H',ah H H'->Ga tt σ H' vs):Ga (cA te tt) σ H (v::vs):=λR r=>h _ λH' s=>g H' s _ λc a=>r c (s.trans a)
theorem aA (h:Gv te σ H v):Ga (cA te dR) σ H [v]:=au h λ_ _=>TU
theorem vN {K:zzA}(h:Ga tt σ H [v])(c:∀H',ah H H'->rC K v H' n):Gv (oN (λxs H Q=>∃x n,xs=[x]/\rC K x H n/\Q (.int n) H) tt) σ H (.int n):=λR r=>h _ λH' s=>⟨v,n,rfl,c H' s,r H' s⟩
theorem fZ {K:zzA}{y:Str}(h:Ga tt σ H [.str y])(hz:y.length<=PK):Gv (oN (λxs H Q=>∃x n,xs=[x]/\rC K x H n/\Q (.int n) H) tt) σ H (.int y.length):=vN h λ_ _=>⟨hz,rfl⟩
theorem f6 {K:zzA}(h:Ga tt σ H [.ref a])(d:ay K H a xs):Gv (oN (λxs H Q=>∃x n,xs=[x]/\rC K x H n/\Q (.int n) H) tt) σ H (.int xs.length):=vN h λ_ s=>.inl ⟨xs,s.seq d,rfl⟩
theorem yJ (x:α)(xs:List α):g6 (x::xs) 0=some x:=by have:=bL (xs:=x::xs) (j:=0) rfl;symm
theorem eB {sp:Sp}{E:XK}{vs:List V}(h:Ga tt σ H vs)(d:∀H' (R:VK),ah H H'->(∀a,ah H' a->R v a)->sp (vs++[]) H' R E):Gv (oW sp [] E tt) σ H v:=λR r=>h _ λH' s=>d H' R s λa c=>r a (s.trans c)
theorem f_ {K:zzA}(h:Gv ta σ H (.ref a))(g:∀H',ah H H'->Gv tb σ H' (.int i))(f:ay K H a xs)(e:g6 xs i=some v):Gv (cT (oq K) ta tb) σ H v:=λR r=>h _ λH' s=>g H' s _ λl d=>⟨a,xs,i,v,rfl,rfl,(s.trans d).seq f,e,r l (s.trans d)⟩
theorem nV (h:Gv ta σ H (.str z))(g:∀H',ah H H'->Gv tb σ H' (.int i))(hz:z.length<=PK)(d:g6 z.cps.toList i=some c):Gv (cT Nr ta tb) σ H (.str ⟨#[c]⟩):=λR r=>h _ λH' s=>g H' s _ λa e=>⟨z,i,c,rfl,rfl,hz,d,r a (s.trans e)⟩
theorem Pf (h:Gt t σ H p)(e:p=true->∀H',ah H H'->Gv ta σ H' v)(d:p=false->∀H',ah H H'->Gv tb σ H' v):Gv (Xe t ta tb) σ H v:=λR r=>h _ λH' s=>by cases p with| true=>exact e rfl H' s _ λc a=>r c (s.trans a)| false=>exact d rfl H' s _ λc a=>r c (s.trans a)
variable {D:Ends}{ts us:TS}{n:Nat}
theorem zU (h:ts { D with nx:=us D } σ H):eY ts us D σ H:=h
theorem fc (h:Gt t σ H b)(k1:b=true->∀H',ah H H'->ts D σ H')(k2:b=false->∀H',ah H H'->us D σ H'):AW t ts us D σ H:=h _ λH' s=>by cases b with| true=>exact k1 rfl H' s| false=>exact k2 rfl H' s
theorem Ez (h:Gv te σ H v)(k:∀H',ah H H'->D.nx (σ.set n (some v)) H'):AX te (cz n) D σ H:=h _ k
theorem bU (h:Gv te σ H v)(k:∀H',ah H H'->D.rt v H'):D7 te D σ H:=h _ k
theorem Ie (h:D.nx σ H):xx D σ H:=h
variable {ix:List (Option Nat)}{g:TG}{tf:TT}{R:VK}
theorem pO {jj:Int}(h:Ga tt σ H [.int jj])(d:-(2 ^ 62)<=jj)(a:jj < 2 ^ 62)(k:∀H',ah H H'->cL (qF 0 jj.toNat) ix g tf te σ H' λc e=>R (.ref c) e):oY (xy tt) ix g tf te σ H R:=h _ λH' s=>⟨jj,rfl,d,a,k H' s⟩
theorem lW {K:zzA}{a:M1}{xs:List V}(h:Gv ta σ H (.ref a))(d:ay K H a xs)(k:∀H',ah H H'->ay K H' a xs->cL (mW K a) ix g tf te σ H' λe f=>R (.ref e) f):oY (oV K ta) ix g tf te σ H R:=h _ λH' s=>⟨a,rfl,⟨xs,s.seq d⟩,k H' s (s.seq d)⟩
theorem TV {K:zzA}{a b:M1}{xs ys:List V}(h:Ga tt σ H [.ref a,.ref b])(d:ay K H a xs)(e:ay K H b ys)(k:∀H',ah H H'->ay K H' a xs->ay K H' b ys->cL (Es K a b) ix g tf te σ H' λf l=>R (.ref f) l):oY (JO K tt) ix g tf te σ H R:= h _ λH' s=>⟨a,b,rfl,⟨xs,s.seq d⟩,⟨ys,s.seq e⟩,k H' s (s.seq d) (s.seq e)⟩
theorem cV (h:te σ H D.rt):D7 te D σ H:=h
theorem Ld (h:Ga tt σ H [.int jj])(d:-(2 ^ 62)<=jj)(a:jj < 2 ^ 62)(k:∀H',ah H H'->cL (qF 0 jj.toNat) ix g tf te σ H' λc e=>D.nx (σ.set n (some (.ref c))) e):ni n (xy tt) ix g tf te D σ H:=h _ λH' s=>⟨jj,rfl,d,a,k H' s⟩
theorem TX {K:zzA}(h:Gv ta σ H (.ref a))(d:ay K H a xs)(k:∀H',ah H H'->ay K H' a xs->cL (mW K a) ix g tf te σ H' λe f=>D.nx (σ.set n (some (.ref e))) f):ni n (oV K ta) ix g tf te D σ H:=h _ λH' s=>⟨a,rfl,⟨xs,s.seq d⟩,k H' s (s.seq d)⟩
theorem iH {sp:Sp}{E:XK}{vs:List V}(h:Ga tt σ H vs)(k:∀H',ah H H'->sp (vs++[]) H' R E):oW sp [] E tt σ H R:=h _ ‹_›
theorem Rg (h:te σ H λx a=>D.nx (σ.set n (some x)) a):AX te (cz n) D σ H:=h
theorem jt (h:te σ H λ_ a=>D.nx σ a):zy te D σ H:=h
theorem eG (h:Gt t σ H b)(k1:b=true->∀H',ah H H'->ts { D with nx:=us D } σ H')(k2:b=false->∀H',ah H H'->us D σ H'):eY (AW t ts xx) us D σ H:=fc h k1 k2
theorem eL (h:Gv te σ H v)(k:∀H',ah H H'->us D (σ.set n (some v)) H'):eY (AX te (cz n)) us D σ H:=h _ k
theorem aP (h:te σ H λx a=>us D (σ.set n (some x)) a):eY (AX te (cz n)) us D σ H:=h
theorem yL (h:te σ H λ_ a=>us D σ a):eY (zy te) us D σ H:=h
end
section
variable {X:Cx}(K:zzA)
theorem dB (h:X.K=K:=by rfl):b_ X (.builtin "len") (λxs H Q=>∃x n,xs=[x]/\rC K x H n/\Q (.int n) H):=h ▸ Nh
theorem um (h:X.K=K:=by rfl)(d:X.calm=true:=by rfl):b_ X (.builtin "all") (λxs H Q=>∃(a:M1) (bs:List Bool),xs=[.ref a]/\ay K H a (bs.map V.bl)/\Q (.bl (bs.all λb=>b)) H):=by subst h;intro c s σ H xs e Q I r q;exact NI c s σ H xs e Q I r ⟨d,q⟩
theorem Pg (h:X.K=K:=by rfl):b_ X (.type "list") (λxs H Q=>∃p ys,xs=[.ref p]/\(ay K H p ys\/aG K H p ys)/\∀l,H l=none->Q (.ref l) (upd H l (.lst ys))):=h ▸ El
theorem cO (h:X.K=K:=by rfl):uU X (oq K):=h ▸ Ib
theorem cQ (h:X.K=K:=by rfl):uU X (yI K):=h ▸ K4
theorem TY (h:X.K=K:=by rfl):K3 X (Nt K):=h ▸ Q9
theorem TZ (h:X.K=K:=by rfl):K3 X (JI K):=h ▸ Th
theorem Dr (h:X.K=K:=by rfl):B8 X "str.join" (rJoin K):=h ▸ Rb
variable {tg l:zAR}{tl ta te to:TE}{t:TA}
theorem dD (a:PE X l tl)(h:X.K=K:=by rfl):PI X tg l (oV K tl):=h ▸ QX a
theorem qJ (a:PE X l tl)(h:X.K=K:=by rfl):PI X tg l (D8 K tl):=h ▸ S4 a
theorem JQ (g:X.mg "zip"=none)(j:PA X [a,b] t)(h:X.K=K:=by rfl)(m:Gl X "zip":=by rfl)(i:zAG [a,b] X.env=[(false,zAM a X.env),(false,zAM b X.env)]:=by rfl)(f:zAG [b] X.env=[(false,zAM b X.env)]:=by rfl) : PI X (.Tuple c k d) (.Call (.Name "zip" p) [a,b] [] e) (JO K t):=h ▸ TN m g j i f
theorem vO (c:PE X a ta)(d:∀b,zDf a X.env b=(do let v <-b; zCX a.pos; zBV [v] (truthy v)))(h:X.K=K:=by rfl) : PT X a (fun σ H Q=>ta σ H λx H'=>∃k,AY K x H' k/\Q k H'):=h ▸ Ng c d
theorem jd {k:Nat}{t:HX}{b:Pos}(c:KQ X es t)(h:X.K=K:=by rfl)(e:X.calm=true:=by rfl)(d:(zCD es X.env).length=n:=by rfl) (a:(zCD es X.env).findIdx? (·.1)=none:=by rfl):PG X (.Tuple es k b) (rB K n t):=h ▸ SX e c d a
theorem YU (c:PE X e te)(h:X.K=K:=by rfl):PE X (.Subscript e (.Slice none none (some (.UnaryOp .USub (.Constant (.int 1) j b) f)) d) a) (ND K te):=h ▸ Tz c
theorem mX {c a:Pos}{T id:String}(k:zDb T)(i:Slot T name id)(j:typeOf (.builtin id)=pure (.type "method_descriptor"))(n:B8 X id r)(m:PE X o to)(q:PA X (e::es) t)(h:X.K=K:=by rfl)(d:zBA o name X.env (zAM o X.env)=zAM o X.env:=by rfl)(g:((zAW a (zAG (e::es) X.env)).all (λx=>!x.1)&&(zBY a (zAY [] X.env)).all (λx=>x.1.isSome) &&decide ((e::es).length+([]:List zDV).length+(if ([]:List zDV).isEmpty then 0 else 1) < 30))=true:=by rfl)(f:(c.endLine == a.line)=true:=by rfl) (p:zAG (e::es) X.env=(false,zAM e X.env)::zAG es X.env:=by rfl) (b:(zAW a (zAG es X.env)).any (·.1)=false:=by rfl) : PE X (.Call (.Attribute o name c) (e::es) [] a) (Ic K T r to t):=h ▸ WJ k i j n m q d g f p b
end
noncomputable def Gn (t:TE)(σ:St)(H:Hp)(xs:List V):Prop:=∀R:VK,(∀p a,H p=none->ah H a->a p=some (.lst xs)->R (.ref p) a)->t σ H R
section
variable {σ:St}{H:Hp}{ta tb te:TE}{tt:TA}{xs ys:List V}{K:zzA}{a:M1}{lo hi:Option Int}
theorem JR {R:VK}(h:Gn te σ H xs)(r:∀p H',H p=none->ah H H'->H' p=some (.lst xs)->R (.ref p) H'):te σ H R:=h R r
theorem nj {r:List V->Hp->VK->Prop}{R:VK}(h:te σ H λx b=>r [x] b R):oN r (cA te dR) σ H R:=h
theorem Ph (h:Gn te σ H xs)(e:xs=ys):Gn te σ H ys:=e ▸ h
theorem ju (h:Ga tt σ H xs)(hz:xs.length<=PK):Gn (A0 tt) σ H xs:=λR r=>h _ λc s=>⟨hz,λp b=>r p _ (s.free b) (s.trans (ah.new b _)) aq⟩
theorem T3 (g:Gv ta σ H (.ref a))(f:H a=some (.lst xs))(i:∀H',ah H H'->Gn tb σ H' ys)(hz:xs.length+ys.length<=PK):Gn (cT Em ta tb) σ H (xs++ys):= λR r=>g _ λh b=>i h b _ λp k j d c=>⟨a,p,xs,ys,rfl,rfl,d _ _ (b _ _ f),c,hz,λq e=>r q _ ((b.trans d).free e) ((b.trans d).trans (ah.new e _)) aq⟩
theorem A_ (f:Gn ta σ H xs)(h:∀H',ah H H'->Gn tb σ H' ys)(hz:xs.length+ys.length<=PK):Gn (cT Em ta tb) σ H (xs++ys):= λR r=>f _ λa i f b g=>h i b _ λp k j d c=>⟨a,p,xs,ys,rfl,rfl,d _ _ g,c,hz,λq e=>r q _ ((b.trans d).free e) ((b.trans d).trans (ah.new e _)) aq⟩
theorem Rh (g:Gv ta σ H (.ref a))(e:ay K H a xs)(h:∀H',ah H H'->Gv tb σ H' (.int i)):Gn (Pb (Nt K) ta (zG tb) A3) σ H (ki xs (some i) none):= λR r=>g _ λf c=>h f c _ λj d=>⟨i,rfl,a,xs,rfl,(c.trans d).seq e,λq b=>r q _ ((c.trans d).free b) ((c.trans d).trans (ah.new b _)) aq⟩
theorem nW (b:Gv ta σ H (.int i)):Gv (zB (rU λi=>.int (-i)) ta) σ H (.int (-i)):=λR r=>b _ λd c=>⟨i,rfl,r d c⟩
theorem T4 (d:Gn ta σ H xs)(e:∀H',ah H H'->Gv tb σ H' (.int i))(hi:g6 xs i=some v):Gv (cT (oq K) ta tb) σ H v:= λR r=>d _ λa f d c g=>e f c _ λh b=>⟨a,xs,i,v,rfl,rfl,ay.of (b _ _ g),hi,r h (c.trans b)⟩
end
theorem uo:∀{ks:List Int} {us:List Value},Vals (ks.map V.int) us->ItemsAre (zAQ prog w) ks us| [],_,.nil=>.nil| k::ks,u::us,.cons r t=>.cons (by obtain⟨a,rfl⟩:=(show ∃a,u=Value.int k a from r);exact intKind_is _ _ _ _) (uo t)
theorem Le:TB.xq (zAQ prog w):=λn k v h=>by obtain⟨t,rfl⟩:=TB.sQ h;cases n <;> rfl
section
variable {X:Cx}{pins:zzC}{σ:St}{H:Hp}{s:VV}
theorem Inv.key (I:Inv X pins σ H s)(h:aG X.K H a (ks.map V.int)):zAH (zAQ X.prog X.w) s.heap ks a:=by obtain⟨b,r,⟨o,d,e,n,c⟩,_⟩:=I.tuple h;exact⟨o,b.toArray,n,d,e,c,uo r⟩
noncomputable def EA (prog:zAA)(w:zAE)(p:M1)(ps:zzD):HO:=.ext λh=>TB.gr (zAQ prog w) h p ps
abbrev rv (p:M1 × List Int):V:=.ref p.1
theorem qK:∀{ps:zzD} {us:List Value},Vals (ps.map rv) us->us=ps.map λp=>Value.ref p.1| [],_,.nil=>rfl| p::ps,u::us,.cons r t=>by have e:=r;rw[e,qK t];rfl
theorem qL:∀ps:zzD,Vals (ps.map rv) (ps.map TB.rf)| []=>.nil| p::ps=>.cons rfl (qL ps)
noncomputable def YV (X:Cx)(K:zzA)(prog:zAA)(w:zAE):List V->Hp->VK->Prop:=λd H Q=>∃(l:M1) (a:zzD),d=[.ref l]/\ay K H l (a.map rv)/\(∀p∈a,aG K H p.1 (p.2.map V.int))/\TB.DQ a 75/\ ∀(S:M1) (b:zzD),H S=none->(∀p∈b,p∈a)->(∀p∈a,∃q∈b,q.2=p.2)->(b.map (·.2)).Nodup->Q (.ref S) (upd H S (EA prog w S b))
theorem Lf (n:X.calm=true)(K:X.A.units+64 < zAN):b_ X (.type "set") (YV X X.K X.prog X.w):=by intro pins s σ H F J Q I r h;obtain⟨l,G,rfl,m,w,d,q⟩:=h;obtain⟨u,rfl,z⟩:=vals1 r;cases z;obtain⟨j,B,e,E⟩:=I.list m;rw[qK B] at e;refine TB.MX (I.ok.hd n) e.isList (λp i=>I.key (w p i)) Le (by lia) d λf C g c v A y=>?_;have b:=let ⟨_,_,_,_,_,_,_,_,_,b⟩:=c; b;have a:∃o,f.get? s.heap.objs.size=some o:=let ⟨o,_,_,t,_⟩:=c; ⟨o,t⟩;exact⟨.ref s.heap.objs.size,_,I.laid y (y6 _) (show bI X.prog X.w _ f _ (EA X.prog X.w s.heap.objs.size g) from ⟨c,a,λD M x k=>x.at_ k⟩),rfl,q _ g (I.hok.fresh (y6 _)) v A b⟩
noncomputable def Ig (K:zzA)(prog:zAA)(w:zAE):List V->Hp->VK->Prop:=λd H Q=>∃(S:M1) (a:zzD),d=[.ref S]/\H S=some (EA prog w S a)/\(∀p∈a,aG K H p.1 (p.2.map V.int))/\(∀p∈a,p.2≠[])/\a.length < 64/\ ∀(l:M1) (b:zzD),H l=none->b.Perm a->b.Pairwise (λp q=>HT.lexLt p.2 q.2=true)->Q (.ref l) (upd H l (.lst (b.map rv)))
theorem EB (w:X.calm=true):b_ X (.builtin "sorted") (Ig X.K X.prog X.w):=by
 intro pins s σ H B z Q I r h;obtain⟨S,C,rfl,o,i,f,d,q⟩:=h;obtain⟨u,rfl,t⟩:=vals1 r;cases t;obtain⟨e,_⟩:=(show bI X.prog X.w H s.heap S _ from I.hok S _ o);refine TB.zK (I.ok.hd w) e (λp y=>I.key (i p y)) f d λk A l b c m a n g x=>?_;have j:(b.map rv).length<=PK:=by rw[yB,g.length_eq,u4];lia
 exact⟨.ref l,_,I.laid m a (show bI X.prog X.w _ k _ (.lst _) from ⟨j,b.map TB.rf,c,qL b,n⟩),rfl,q _ b (I.hok.fresh a) g x⟩
end
mutual noncomputable def Dt.py:Dt->PyData| .bq=>.none| .bl b=>.bool b| .int i=>.int i| .str x=>.str x| .lst ds=>.list (Dt.fG ds)| .tup ds=>.tuple (Dt.fG ds) noncomputable def Dt.fG:List Dt->List PyData| []=>[]| d::ds=>Dt.py d::Dt.fG ds end
section
variable {X:Cx}{pins:zzC}{σ:St}{H:Hp}{s:VV}
mutual theorem lz (I:Inv X pins σ H s):∀(d:Dt) {x:V} {u:Value},Rep X.K H d x->RelV x u->∃as,Reads s.heap u d.py as| .bq,x,u,h,r=>by unfold Rep at h; subst h; cases r; exact⟨_,.none⟩| .bl b,x,u,h,r=>by unfold Rep at h; subst h; cases r; exact⟨_,.bool b⟩| .int i,x,u,h,r=>by unfold Rep at h; subst h; obtain⟨t,rfl⟩:=r; exact⟨_,.int i t⟩| .str z,x,u,h,r=>by unfold Rep at h; subst h; obtain⟨t,rfl⟩:=r; exact⟨_,.str z t⟩| .lst ds,x,u,h,r=>by unfold Rep at h;obtain⟨a,xs,rfl,q,rr⟩:=h;cases r;obtain⟨its,r1,p1,_⟩:=I.list q;obtain⟨o,ho,hc,n,hd⟩:=p1.isList;obtain⟨as,ra⟩:=vP I ds rr r1;exact⟨_,.list ho hc hd (by simpa using ra)⟩| .tup ds,x,u,h,r=>by unfold Rep at h;obtain⟨a,xs,rfl,q,rr⟩:=h;cases r;obtain⟨its,r1,⟨o,ho,hc,n,hd⟩,_⟩:=I.tuple q;obtain⟨as,ra⟩:=vP I ds rr r1;exact⟨_,.tuple ho hc hd (by simpa using ra)⟩;theorem vP (I:Inv X pins σ H s):∀(ds:List Dt) {xs:List V} {us:List Value},aJ X.K H ds xs->Vals xs us->∃as,ReadsAll s.heap us (Dt.fG ds) as| [],xs,us,h,r=>by unfold aJ at h; subst h; cases r; exact⟨_,.nil⟩| d::ds,xs,us,h,r=>by unfold aJ at h;obtain⟨x,xr,rfl,q,t⟩:=h;cases r with| cons rx T5=> obtain⟨as,ra⟩:=lz I d q rx;obtain⟨bs,rb⟩:=vP I ds t T5;exact⟨_,.cons ra rb⟩;end
noncomputable def JS (d e:Dt):Prop:=d.py.canLay0=true/\e.py.canLay0=true/\min d.py.depth e.py.depth<=60
noncomputable def EC (K:zzA)(a:Bool):R2:=λx y H Q=>∃d e:Dt,JS d e/\Rep K H d x/\Rep K H e y/\Q (.bl (a ^^ eqv d.py e.py)) H
theorem T6 (o:X.A.units+64 < zAN):dU X (zAK .Eq) (EC X.K false):=by intro pins s σ H x y u v Q I k c h;obtain⟨d,e,⟨f,j,p⟩,b,g,q⟩:=h;obtain⟨m,i⟩:=lz I d b k;obtain⟨n,l⟩:=lz I e g c;rw[false_xor] at q;exact SeqAt.rcAt_reads i l f j (by lia) X.prog X.w X.xe _ ⟨.bl _,H,I,rfl,q⟩
theorem T7 (o:X.A.units+64 < zAN):dU X (zAK .NotEq) (EC X.K true):=by intro pins s σ H x y u v Q I k c h;obtain⟨d,e,⟨f,j,p⟩,b,g,q⟩:=h;obtain⟨m,i⟩:=lz I d b k;obtain⟨n,l⟩:=lz I e g c;rw[Bool.true_xor] at q;exact SeqAt.rcNeAt_reads i l f j (by lia) X.prog X.w X.xe _ ⟨.bl _,H,I,rfl,q⟩
theorem jv:∀ns:List Int,Dt.fG (ns.map Dt.int)=ns.map PyData.int| []=>rfl| n::ns=>by rw[zAw,zAw,<-jv ns]; rfl
theorem yM:∀ns ms:List Int,eqvAll (ns.map .int) (ms.map .int)=decide (ns=ms)| [],[]=>rfl| [],_::_=>rfl| _::_,[]=>rfl| n::ns,m::ms=>by show (n == m&&eqvAll _ _)=_;rw[yM ns ms];grind
theorem lay_ints:∀ns:List Int,canLayAll0 (ns.map .int)=true| []=>rfl| n::ns=>lay_ints ns
theorem uq:∀ns:List Int,depthAll (ns.map .int)=0| []=>rfl| n::ns=>by show max 0 _=0;rw[uq ns]; rfl
theorem lG {K:zzA}:∀ns:List Int,aJ K H (ns.map Dt.int) (ns.map V.int)| []=>by rfl| n::ns=>by exact⟨_,_,rfl,by rfl,lG ns⟩
noncomputable def NO (K:zzA)(b:Bool):R2:=λx y H Q=>∃(a l:M1) (e:List Int) (c:zzD),x=.ref a/\y=.ref l/\aG K H a (e.map V.int)/\ay K H l (c.map rv)/\(∀p∈c,aG K H p.1 (p.2.map V.int))/\Q (.bl (b ^^ decide (∃p∈c,p.2=e))) H
theorem ED:∀{a b:List Int},a.map V.int=b.map V.int->a=b| [],[],_=>rfl| x::f,y::e,h=>by injection h with c d;injection c with c;rw[c,ED d]
theorem T9 (M:X.A.units+64 < zAN):dU X (zAK .In) (NO X.K false):=by intro pins s σ H x y u v Q I C K h;obtain⟨a,l,c,f,rfl,rfl,t,E,g,q⟩:=h;cases C; cases K;obtain⟨r,A,B,_⟩:=I.list E;have e:=qK A;subst e;classical
 let i:Value->Bool:=λz=>decide (∃p∈f,z=.ref p.1/\p.2=c);refine SeqAt.in_listAt i B.isList (λz P=>?_) ?_
 ·obtain⟨p,o,rfl⟩:∃p∈f,z=Value.ref p.1:=by grind
  have w:i (.ref p.1)=decide (p.2=c):=by refine decide_eq_decide.mpr ⟨λ⟨J,j,k,N⟩=>?_,(by grind)⟩;injection k with k;have D:=g p o;have n:=g J j;rw[<-k] at n;rw[ED (I.BV D n)];symm
  rw[w];obtain⟨L,G⟩:=lz I (.tup _) (x:=.ref p.1) (by exact⟨_,_,rfl,g p o,lG _⟩) rfl;obtain⟨O,F⟩:=lz I (.tup _) (x:=.ref a) (by exact⟨_,_,rfl,t,lG _⟩) rfl;have m:∀d,(Dt.tup _).py.canLay0=true:=λd=>by show canLayAll0 _=true; rw[jv]; exact lay_ints d
  have R:∀d:List Int,(Dt.tup (d.map Dt.int)).py.depth=1:=λd=>by show depthAll (Dt.fG _)+1=1; rw[jv,uq]
  have:=SeqAt.eqAt_reads _ _ X.A.in1 s _ _ _ _ G F (m _) (m _) (by grind);have e:eqv (Dt.tup (p.2.map Dt.int)).py (Dt.tup (c.map Dt.int)).py=decide (p.2=c):=by show eqvAll _ _=_;rw[jv,jv,yM]
  rw[e] at this;symm
 ·have:(f.map λp=>Value.ref p.1).toArray.any i=decide (∃p∈f,p.2=c):=by grind
  rw[this];rw[false_xor] at q;exact⟨.bl _,H,I,rfl,q⟩
end
section
variable {X:Cx}(K:zzA)
theorem Lg (h:X.K=K:=by rfl):b_ X (.type "tuple") (λxs H Q=>∃p ys,xs=[.ref p]/\((ay K H p ys/\∀l,H l=none->Q (.ref l) (upd H l (.tup ys)))\/(aG K H p ys/\Q (.ref p) H))):=h ▸ C3
noncomputable def WK (K:zzA)(prog:zAA)(w:zAE):List V->Hp->VK->Prop:=λc H Q=>∃(l:M1) (a:zzD),c=[.ref l]/\ay K H l (a.map rv)/\(∀p∈a,aG K H p.1 (p.2.map V.int))/\TB.DQ a 75/\ ∀(S:M1) (b:zzD),H S=none->(∀p∈b,p∈a)->(∀p∈a,∃q∈b,q.2=p.2)->(b.map (·.2)).Nodup->Q (.ref S) (upd H S (EA prog w S b))
theorem YW (P:zAA)(w:zAE)(a:X.A.units+64 < zAN)(h:X.K=K:=by rfl)(d:X.prog=P:=by rfl)(b:X.w=w:=by rfl)(c:X.calm=true:=by rfl):b_ X (.type "set") (WK K P w):=by subst h; subst b;exact Lf c a
theorem Ri (P:zAA)(w:zAE)(h:X.K=K:=by rfl)(c:X.prog=P:=by rfl)(b:X.w=w:=by rfl)(a:X.calm=true:=by rfl):b_ X (.builtin "sorted") (Ig K P w):=by subst h; subst b;exact EB a
theorem YX (a:X.A.units+64 < zAN)(h:X.K=K:=by rfl):dU X (zAK .Eq) (EC K false):=h ▸ T6 a
theorem T_ (a:X.A.units+64 < zAN)(h:X.K=K:=by rfl):dU X (zAK .NotEq) (EC K true):=h ▸ T7 a
theorem Ua (a:X.A.units+64 < zAN)(h:X.K=K:=by rfl):dU X (zAK .In) (NO K false):=h ▸ T9 a
end
noncomputable def Hm (D:M1)(H:Hp):Hp:=λb=>if b=D then none else H b
theorem je (h:b≠D):Hm D H b=H b:=by unfold Hm; ext
theorem JT (D:M1)(H:Hp):Hm D H D=none:=by unfold Hm; simp
theorem ah.hm (s:ah H H'):ah (Hm D H) (Hm D H'):=λb o e=>by
 by_cases c:b=D;·rw[c,JT] at e; ext
 ·rw[je c] at e ⊢; exact s b o e
theorem ah.pP (s:ah H H')(o:HO):ah (Hm D H) (Hm D (upd H' D o)):=λb u e=>by
 by_cases c:b=D;·rw[c,JT] at e; ext
 ·rw[je c] at e ⊢; rw[aD c]; exact s b u e
theorem jw:ah (Hm D H) H:=λb u e=>by
 by_cases c:b=D;·rw[c,JT] at e; ext
 ·rwa [je c] at e
theorem ah.into (s:ah a H)(h:a D=none):ah a (Hm D H):=λb u e=>by have c:=aS e h;rw[je c]; exact s b u e
theorem aJ.snoc {K:zzA}(h:Rep K H d v):∀{b:List Dt} {vs:List V},aJ K H b vs->aJ K H (b++[d]) (vs++[v])| [],_,r=>by subst r;exact⟨v,[],rfl,h,by rfl⟩| e::b,_,r=>by obtain⟨x,c,rfl,q,t⟩:=r;exact⟨x,_,rfl,q,aJ.snoc h t⟩
theorem aJ.append {K:zzA}:∀{b es:List Dt} {vs ws:List V},aJ K H b vs->aJ K H es ws->aJ K H (b++es) (vs++ws)| [],es,_,ws,r,c=>by subst r; symm| e::b,es,_,ws,r,c=>by obtain⟨x,d,rfl,q,t⟩:=r;exact⟨x,_,rfl,q,aJ.append t c⟩
theorem aJ.at_ {K:zzA}:∀{b:List Dt} {vs:List V},aJ K H b vs->∀(i:Nat) (v:V),vs[i]?=some v->∃d,b[i]?=some d/\Rep K H d v| [],_,r,i,v,e=>by unfold aJ at r; ext| d::b,_,r,i,v,e=>by obtain⟨x,c,rfl,q,t⟩:=r;cases i with| zero=>ext| succ i=>simpa using aJ.at_ t i v ‹_›
theorem aJ.get {K:zzA}(r:aJ K H b vs)(i:Nat)(d:Dt)(e:b[i]?=some d):∃v,vs[i]?=some v/\Rep K H d v:=by
 have c:=r.length;have g:i < vs.length:=by grind
 obtain⟨h,f,q⟩:=r.at_ i vs[i] (by simp);grind
theorem aJ.erase {K:zzA}:∀{b:List Dt} {vs:List V} (i:Nat),aJ K H b vs->aJ K H (b.eraseIdx i) (vs.eraseIdx i)| [],_,i,r=>by subst r; rfl| d::b,_,i,r=>by obtain⟨x,c,rfl,q,t⟩:=r;cases i with| zero=>symm| succ i=> exact⟨x,_,rfl,q,aJ.erase i t⟩
abbrev tupI (t:List Int):Dt:=.tup (t.map Dt.int)
abbrev bV (t:List Int):Dt:=.lst (t.map Dt.int)
theorem Rj {K:zzA}(h:Rep K H (.int i) v):v=.int i:=by symm
theorem oB {K:zzA}:∀{t:List Int} {vs:List V},aJ K H (t.map Dt.int) vs->vs=t.map V.int| [],_,r=>by symm| i::t,_,r=>by obtain⟨x,c,rfl,q,b⟩:=r;rw[Rj q,oB b];rfl
theorem gZ {K:zzA}:Rep K H (tupI t) v↔∃a,v=.ref a/\aG K H a (t.map V.int):=by
 constructor
 ·intro h;obtain⟨a,c,rfl,q,r⟩:=h;exact⟨a,rfl,oB r ▸ q⟩
 ·rintro⟨a,rfl,q⟩;exact⟨a,_,rfl,q,lG t⟩
theorem g4 {K:zzA}:Rep K H (bV t) v↔∃a,v=.ref a/\ay K H a (t.map V.int):=by
 constructor
 ·intro h;obtain⟨a,c,rfl,q,r⟩:=h;exact⟨a,rfl,oB r ▸ q⟩
 ·rintro⟨a,rfl,q⟩;exact⟨a,_,rfl,q,lG t⟩
theorem vQ {K:zzA}:∀{ts:zzB} {vs:List V},aJ K H (ts.map tupI) vs->∃ps:zzD,vs=ps.map rv/\ps.map (·.2)=ts/\∀p∈ps,aG K H p.1 (p.2.map V.int)
 | [],_,r=>by unfold aJ at r; ext| t::ts,_,r=>by
  obtain⟨x,f,rfl,q,d⟩:=r;obtain⟨a,rfl,h⟩:=gZ.mp q;obtain⟨ps,rfl,g,e⟩:=vQ d;refine⟨(a,t)::ps,rfl,by ext,λp c=>?_⟩;rcases u1.mp c with rfl | c;·symm
  ·exact e p c
theorem vR {K:zzA}:∀ps:zzD,(∀p∈ps,aG K H p.1 (p.2.map V.int))->aJ K H ((ps.map (·.2)).map tupI) (ps.map rv)| [],_=>by rfl| p::ps,h=>by exact⟨_,_,rfl,gZ.mpr (by ext),vR ps λq b=>h q (by ext)⟩
section
variable {K:zzA}{ix:List (Option Nat)}{te:TE}{σ:St}{H1:Hp}{Q:M1->Hp->Prop}
theorem oE {a:M1}{xs:List V}{l:Nat}(f:Nat->Dt)(n:ay K H1 a xs)(hz:xs.length<=PK)(s:∀(D:M1) (i:Nat) (x:V) (H:Hp) (R:VK),H1 D=none->(∃ys,H D=some (.lst ys))->xs[i]?=some x->ah H1 H->(∀v c,ah H c->Rep K (Hm D c) (f i) v->R v c)->te ((dS ix σ).set l (some x)) H R)(o:∀D H ys,H1 D=none->ah H1 H->H D=some (.lst ys)->aJ K (Hm D H) ((range xs.length).map f) ys->Q D H):cL (mW K a) ix (cz l) ly te σ H1 Q:=by
 intro D g;refine⟨λi m ys H=>m=xs.length - i/\i<=xs.length/\ah H1 H/\aJ K (Hm D H) ((range i).map f) ys,⟨xs.length,by simp,zAb _,ah.new g _,by rfl⟩,?_⟩;rintro i m ys H ⟨rfl,t,d,p⟩ b;have q:=d.seq n;by_cases k:i < xs.length
 ·refine .inr ⟨⟨xs,xs[i],q,by simp⟩,λx u y=>?_⟩;obtain⟨e,y⟩:=y;subst e;refine s D i x _ _ g ⟨ys,b⟩ (y xs q) d λv c j h=>?_;have r:ys.length=i:=by rw[p.length,yB,zBn]
  refine⟨j _ _ b,by lia,xs.length - (i+1),by grind,rfl,k,(d.trans j).put g _,?_⟩;rw[zA2,v4];exact aJ.snoc (h.same ((ah.refl c).pP _)) (p.same (j.pP _))
 ·have e:i=xs.length:=by lia
  subst e;exact .inl ⟨⟨xs,q,y6 _⟩,o D H ys g d b p⟩
end
section
variable {X:Cx}(K:zzA)
theorem YY (a:X.A.units+64 < zAN)(h:X.K=K:=by rfl):dU X (zAK .Lt) (Nq K):=h ▸ Ti (by lia)
end
section
variable {K:zzA}{ix:List (Option Nat)}{te ta tb:TE}{tt:TA}{g:TG}{tf:TT}{σ:St}{H H1:Hp}{Q:M1->Hp->Prop}{R:VK}
theorem EE {a:M1}{xs:List V}{l:Nat}(f:V->V)(r:aG K H1 a xs)(hz:xs.length<=PK)(s:∀(i:Nat) (x:V) (H:Hp) (R:VK),xs[i]?=some x->ah H1 H->(∀h,ah H h->R (f x) h)->te ((dS ix σ).set l (some x)) H R)(t:∀D H,H1 D=none->ah H1 H->H D=some (.lst (xs.map f))->Q D H):cL (zA K a) ix (cz l) ly te σ H1 Q:=by
 intro D d;refine⟨λi m k H=>m=xs.length - i/\i<=xs.length/\ah H1 H/\k=(xs.take i).map f,⟨xs.length,by simp,zAb _,ah.new d _,by rfl⟩,?_⟩;rintro i m k H ⟨rfl,v,c,p⟩ b;have q:=c.tup r;by_cases j:i < xs.length
 ·refine .inr ⟨⟨xs,xs[i],q,by simp⟩,λx u y=>?_⟩;obtain⟨e,y⟩:=y;subst e;have n:=y xs q;refine s i x _ _ n c λh o=>?_;refine⟨o _ _ b,?_,xs.length - (i+1),by grind,rfl,j,(c.trans o).put d _,?_⟩;·rw[p,yB,zBv]; lia
  ·rw[uW f xs i x n,p]
 ·have e:i=xs.length:=by lia
  subst e;refine .inl ⟨⟨xs,q,y6 _⟩,t D H d c ?_⟩;rw[b,p,zAd]
theorem vS {a:M1}{xs:List V}(h:Gv ta σ H (.ref a))(b:aG K H a xs)(k:∀H',ah H H'->aG K H' a xs->cL (zA K a) ix g tf te σ H' λd c=>R (.ref d) c):oY (D8 K ta) ix g tf te σ H R:=h _ λH' s=>⟨a,rfl,⟨xs,s.tup b⟩,k H' s (s.tup b)⟩
theorem Rk {i j:Int}(h:Ga tt σ H [.int i,.int j])(a:-(2 ^ 62)<=i/\i < 2 ^ 62/\-(2 ^ 62)<=j/\j < 2 ^ 62)(k:∀H',ah H H'->cL (qF i (j - i).toNat) ix g tf te σ H' λb c=>R (.ref b) c):oY (Jx tt) ix g tf te σ H R:=h _ λH' s=>⟨i,j,rfl,a,k H' s⟩
theorem Ba (h:Ga tt σ H [.ref a])(b:aG K H a xs):Gv (oN (λxs H Q=>∃x n,xs=[x]/\rC K x H n/\Q (.int n) H) tt) σ H (.int xs.length):=vN h λ_ s=>.inr ⟨xs,s.tup b,rfl⟩
theorem cG (h:Gv ta σ H (.ref a))(g:∀H',ah H H'->Gv tb σ H' (.int i))(e:aG K H a xs)(d:g6 xs i=some v):Gv (cT (yI K) ta tb) σ H v:=λR r=>h _ λH' s=>g H' s _ λc b=>⟨a,xs,i,v,rfl,rfl,(s.trans b).tup e,d,r c (s.trans b)⟩
theorem Ub (h:Gv ta σ H (.ref a))(g:∀H',ah H H'->Gv tb σ H' (.ref b))(e:aG K H a (x.map V.int))(f:aG K H b (y.map V.int)):Gv (cT (Nq K) ta tb) σ H (.bl (HT.lexLt x y)):=λR r=>h _ λH1 c=>g H1 c _ λi d=>⟨a,b,x,y,rfl,rfl,(c.trans d).tup e,(c.trans d).tup f,r i (c.trans d)⟩
end
section
variable {prog:zAA}{w:zAE}{A:zAI}{E:zzE}{s:VV}
abbrev SI:String:="str_ascii_iterator"
theorem GR {e:M1}{x:Str}{t:Tok}{i c:Nat}{Q:zzE}(a:s.heap.IsStrIter e SI x t i)(h:x.cps[i]?=some c)(g:∀h',h'.IsStrIter e SI x t (i+1)->Heap.SameBut e s.heap h'->Q (.str ⟨#[c]⟩ s.toks) { s with heap:=h',toks:=s.toks+1 }) : zAC (zAD prog w) A (Builtin.SmallTypes.nextOf (.ref e)) Q E s:=by obtain⟨o,d,f,b⟩:=id a;refine yA (zB5 a.typeIs F.slot_str_ascii_iterator_next (zBh F.slot_str_ascii_iterator_next a.typeIs F.entry_str_ascii_iterator_next ?_ (F.args_str_ascii_iterator_next_1 _)));show zAC _ _ (field _ 0 >>= _) _ _ s;refine yA (zBy d b rfl ?_);show zAC _ _ (field _ 1 >>= _) _ _ s;refine yA (zBy d b rfl ?_);ext;refine yA (zCS d b (by simp) (yA (wpAny_mkStr (y4 ⟨_,rfl,y4 (g _ ?_ (zB8 ..))⟩) (by show 1<=PK; decide))));exact⟨_,zBs _ d (Obj.isFreed_of_fields (Obj.data_mapFields b _)),(Obj.cls_mapFields ..).trans f,by rw[Obj.data_mapFields b]; rfl⟩
theorem Lh {z TI TO g h l1:M1}{k1 k2:Nat}{xs:Array Value}{x a b:Value}{y:Str}{t:Tok}{c:Nat}{Q:zzE}(D:zBZ z TI TO g h l1 l1)(hz:zDQ s.heap z TI TO .none) (I:zAX s.heap TI (.ref g) (.ref h)) (H:zAX s.heap TO a b)(h1:s.heap.IsListIter g l1 k1) (Y:s.heap.IsStrIter h SI y t k2) (G:s.heap.IsList l1 xs) (hx:xs[k1]?=some x) (X:y.cps[k2]?=some c)(hQ:∀h',zDQ h' z TI TO (zBX s.heap.objs.size)->zAX h' TO x (.str ⟨#[c]⟩ s.toks)->h'.IsListIter g l1 (k1+1)->h'.IsStrIter h SI y t (k2+1)->zAX h' s.heap.objs.size x (.str ⟨#[c]⟩ s.toks)->(∀c o,c≠z->c≠TO->c≠g->c≠h->s.heap.get? c=some o->h'.get? c=some o)->Q (.ref s.heap.objs.size) { s with heap:=h',toks:=s.toks+1 }) : zAC (zAD prog w) A (Builtin.«zip.__next__» ⟨[.ref z],[]⟩) (λF s'=>∃v,F=.done (.ret v)/\Q v s') E s:=by
 show zAC _ _ (field (.ref z) 2 >>= _) _ _ _;refine yA (zBy hz rfl (x:=.bool false) rfl ?_);refine yA (zBy hz rfl rfl (yA (zB0 I rfl ?_)));refine yA ?_;refine yA (zBy hz rfl rfl (y4 ?_));refine yA (zBO (yA (zBy hz rfl (x:=.ref TO) rfl (yA (zBC hz (by simp) λH1 V f=>?_)))));refine yA ?_;refine yA (yA (wpAny_onRaise ?_));refine yA (wpAny_nextOf_list_item (h1.extBut f.extBut D.i1z) (G.extBut f.extBut D.l1z) hx λH2 u l=>y4 ?_);have N:=l.extBut _ _ D.TOi1 (f.extBut _ _ D.TOz H);refine yA (zB0 N rfl (yA (wpAny_updateSeq_pair N λH3 W m=>?_)));refine yA (wpAny_letGo (y4 ?_));refine yA (yA (wpAny_onRaise ?_));refine yA (GR (((Y.extBut f.extBut D.i2z).extBut l.extBut D.i12.symm).extBut m.extBut D.TOi2.symm) X λH4 Z n=>y4 ?_);have L:=n.extBut _ _ D.TOi2 W;refine yA (zB0 L rfl (yA (wpAny_updateSeq_pair L λj p k=>?_)));replace p:zAX j TO x _:=p;refine yA (wpAny_letGo (y4 (y4 ?_)));refine yA (zB0 p rfl (yA (wpAny_newTuple ?_)));have i:j.objs.size=s.heap.objs.size:=by rw[k.1,n.1,m.1,l.1,f.1]
 have R:=k.extBut _ _ D.TOz.symm (n.extBut _ _ D.i2z.symm (m.extBut _ _ D.TOz.symm (l.extBut _ _ D.i1z.symm V)));have K5:∀c o,c≠z->c≠TO->c≠g->c≠h->s.heap.get? c=some o->j.get? c=some o:=λc o d q C B e=> k.extBut _ _ q (n.extBut _ _ B (m.extBut _ _ q (l.extBut _ _ C (f.extBut _ _ d e))));have U:=((u.extBut m.extBut D.TOi1.symm).extBut n.extBut D.i12).extBut k.extBut D.TOi1.symm;have B5:=Z.extBut k.extBut D.TOi2.symm;have J:=vT R;refine yA ?_;have Z6:zDQ (j.push { cls:=.type "tuple",data:=.seq #[x,.str ⟨#[c]⟩ s.toks] }) z TI TO .ellipsis:=y1 _ R;refine yA (zBC Z6 (by simp) λH7 Z7 T=>?_);refine zBC Z7 (by simp) λS O K=>?_;have r:∀c o,c≠z->j.get? c=some o->S.get? c=some o:=λc o d e=>K.extBut _ _ d (T.extBut _ _ d (y1 _ e));have M:=K.extBut _ _ (zCq J) (T.extBut _ _ (zCq J) (u3 _ rfl));rw[i] at O M;refine y4 ⟨_,rfl,?_⟩;rw[i];obtain⟨P,e2,r2⟩:=B5;exact hQ S O (r _ _ D.TOz p) (U.at λo e=>r _ o D.i1z e) ⟨P,r _ P D.i2z e2,r2⟩ M λc o d q C B e=>r c o d (K5 c o d q C B e)
theorem Li {z TI TO d e l1:M1}{k1 k2:Nat}{xs:Array Value}{x a b:Value}{y:Str}{t:Tok}{c:Nat}{Q:Option Value->VV->Prop}(D:zBZ z TI TO d e l1 l1)(hz:zDQ s.heap z TI TO .none) (h:zAX s.heap TI (.ref d) (.ref e)) (f:zAX s.heap TO a b)(p:s.heap.IsListIter d l1 k1) (u:s.heap.IsStrIter e SI y t k2) (g:s.heap.IsList l1 xs) (j:xs[k1]?=some x) (q:y.cps[k2]?=some c)(v:∀h',zDQ h' z TI TO (zBX s.heap.objs.size)->zAX h' TO x (.str ⟨#[c]⟩ s.toks)->h'.IsListIter d l1 (k1+1)->h'.IsStrIter e SI y t (k2+1)->zAX h' s.heap.objs.size x (.str ⟨#[c]⟩ s.toks)->(∀c o,c≠z->c≠TO->c≠d->c≠e->s.heap.get? c=some o->h'.get? c=some o)->Q (some (.ref s.heap.objs.size)) { s with heap:=h',toks:=s.toks+1 }) : zAC (zAD prog w) A (zBU (.ref z)) Q E s:=by have i:s.TypeIs (.ref z) _:=⟨_,hz,rfl⟩;exact yA (zDB (zB5 i F.slot_zip_next (zBh F.slot_zip_next i F.entry_zip_next (Lh D hz h f p u g j q λh' m r k l B n=>y4 (v h' m r k l B n)) (F.args_zip_next_1 _))))
theorem NP {z TI TO d f l1:M1}{k1:Nat}{xs:Array Value}{a b:Value}{Q:Fin->VV->Prop}(F:A.handled=none)(D:zBZ z TI TO d f l1 l1)(hz:zDQ s.heap z TI TO .none) (j:zAX s.heap TI (.ref d) (.ref f)) (H:zAX s.heap TO a b)(v:s.heap.IsListIter d l1 k1) (l:s.heap.IsList l1 xs) (C:xs[k1]?=none)(r:∀h' e,(∀c o,c≠z->c≠TO->c≠d->c≠f->s.heap.get? c=some o->h'.get? c=some o)->(∃o,h'.get? e=some o/\o.cls=.type "StopIteration")->E (.ref e) { s with heap:=h' }) : zAC (zAD prog w) A (Builtin.«zip.__next__» ⟨[.ref z],[]⟩) Q E s:=by
 show zAC _ _ (field _ 2 >>= _) _ _ _;refine yA (zBy hz rfl rfl ?_);refine yA (zBy hz rfl rfl (yA (zB0 j rfl ?_)));refine yA ?_;refine yA (zBy hz rfl rfl (y4 ?_));refine yA (zBO (yA (zBy hz rfl rfl (yA (zBC hz (by simp) λJ B k=>?_)))));refine yA ?_;refine yA (yA (wpAny_onRaise ?_));refine yA (wpAny_nextOf_list_end F (v.extBut k.extBut D.i1z) (l.extBut k.extBut D.l1z) C λI e m G=>?_);obtain⟨t,h,g⟩:=G;have y:=m _ _ D.i1z.symm B;have i:e≠z:=λq=>by grind
 exact zBC y (by simp) λu _ p=>r u e (λc o n _ x _ q=>p.extBut _ _ n (m _ _ x (k.extBut _ _ n q))) ⟨t,p.extBut _ _ i h,g⟩
theorem C4 {z TI TO d h l1:M1}{k1:Nat}{xs:Array Value}{a b:Value}{Q:Option Value->VV->Prop}(p:A.handled=none)(D:zBZ z TI TO d h l1 l1)(hz:zDQ s.heap z TI TO .none) (i:zAX s.heap TI (.ref d) (.ref h)) (g:zAX s.heap TO a b)(m:s.heap.IsListIter d l1 k1) (f:s.heap.IsList l1 xs) (k:xs[k1]?=none)(t:∀h',(∀c o,c≠z->c≠TO->c≠d->c≠h->s.heap.get? c=some o->h'.get? c=some o)->Q none { s with heap:=h' }):zAC (zAD prog w) A (zBU (.ref z)) Q E s:=by have j:s.TypeIs (.ref z) _:=⟨_,hz,rfl⟩;refine yA (zDB (zB5 j F.slot_zip_next (zBh F.slot_zip_next j F.entry_zip_next (NP p D hz i g m f k λh' e n r=>?_) (F.args_zip_next_1 _))));obtain⟨o,l,q⟩:=r;exact yA (zCC ⟨o,l,q⟩ isSubtype_stop (y4 (t _ n)))
end
abbrev Uc (h:Heap) (l:M1):Heap:=h.push { cls:=.type "list_iterator",data:=.fields #[.ref l,.int 0 0] }
abbrev Ud (h:Heap) (l:M1) (y:Str) (t:Tok):Heap:=(Uc h l).push { cls:=.type "str_ascii_iterator",data:=.fields #[.str y t,.int 0 0] }
abbrev Ue (h:Heap) (l:M1) (y:Str) (t:Tok):Heap:=(Ud h l y t).push { cls:=.type "tuple",data:=.seq #[.ref h.objs.size,.ref (Uc h l).objs.size] }
abbrev Ug (h:Heap) (l:M1) (y:Str) (t:Tok):Heap:=(Ue h l y t).push { cls:=.type "tuple",data:=.seq #[.none,.none] }
abbrev Ih (h:Heap) (l:M1) (y:Str) (t:Tok):Heap:=(Ug h l y t).push { cls:=.type "zip",data:=.fields #[.none,.bool false,.bool false,.ref (Ud h l y t).objs.size,.ref (Ue h l y t).objs.size] }
set_option maxHeartbeats 4000000 in theorem JU (l:M1)(xs:Array Value)(y:Str)(t:Tok)(f:y.cps.all (· < 128)=true) : Meets (Builtin.«zip.__new__» ⟨[.type "zip",.ref l,.str y t],[]⟩) (λ_ R s=>s.heap.IsList l xs/\ R (.ok (.ret (.ref (Ug s.heap l y t).objs.size))) { s with heap:=Ih s.heap l y t }):= .of_wp λe w A R s h=>by obtain⟨b,h⟩:=h;have d:=sub_zip;have c:=b;wp_walk using zCx c,wpAny_pyIter_ascii f;exact⟨_,rfl,h⟩
section
variable {prog:zAA}{w:zAE}{A:zAI}{E:zzE}{s:VV}
theorem Lj {l:M1}{xs:Array Value}{y:Str}{t:Tok}{Q:zzE}(m:y.cps.all (· < 128)=true)(n:s.heap.IsList l xs)(h:∀h',zDQ h' (s.heap.objs.size+4) (s.heap.objs.size+2) (s.heap.objs.size+3) .none->zAX h' (s.heap.objs.size+2) (.ref s.heap.objs.size) (.ref (s.heap.objs.size+1))-> zAX h' (s.heap.objs.size+3) .none .none->h'.IsListIter s.heap.objs.size l 0->h'.IsStrIter (s.heap.objs.size+1) SI y t 0->(∀c o,s.heap.get? c=some o->h'.get? c=some o)->Q (.ref (s.heap.objs.size+4)) { s with heap:=h' }) : zAC (zAD prog w) A (call (.type "zip") [.ref l,.str y t]) Q E s:=by
 refine callType_new F.called_zip (by decide) (F.typeCall_zip_2 _ _) (F.newCall_zip_2 _ _) (λa=>F.args_object_init_3 a _ _) F.entry_zip_new (JU l xs y t m) ⟨n,?_⟩;have d:(Uc s.heap l).objs.size=s.heap.objs.size+1:=size_push ..;have k:(Ud s.heap l y t).objs.size=s.heap.objs.size+2:=by simp
 have j:(Ue s.heap l y t).objs.size=s.heap.objs.size+3:=by simp
 have e:(Ug s.heap l y t).objs.size=s.heap.objs.size+4:=by simp
 have b:(Ih s.heap l y t).get? _=some _:=u3 _ rfl;have f:(Ih s.heap l y t).get? _=some _:=y1 _ (u3 _ rfl);have g:(Ih s.heap l y t).get? _=some _:=y1 _ (y1 _ (u3 _ rfl));have i:(Ih s.heap l y t).get? _=some _:=y1 _ (y1 _ (y1 _ (u3 _ rfl)));have p:(Ih s.heap l y t).get? s.heap.objs.size=some _:=y1 _ (y1 _ (y1 _ (y1 _ (u3 _ rfl))));rw[k,j,e] at b;rw[d,k] at g;rw[j] at f;rw[d] at i;rw[e];exact⟨⟨_,b,rfl⟩,h _ b g f ⟨_,p,rfl,rfl⟩ ⟨_,i,rfl,rfl⟩ λc o q=> y1 _ (y1 _ (y1 _ (y1 _ (y1 _ q))))⟩
end
noncomputable def JV (K:zzA)(a:M1)(y:Str):It:=⟨λi H=>∃b x,ay K H a b/\b[i]?=some x/\i < y.cps.size, λi H v d=>∃t,v=.ref t/\H t=none/\∃x,d=upd H t (.tup [x,e_ y i])/\(∀b,ay K H a b->b[i]?=some x), λi H=>∃b,ay K H a b/\b.length<=i⟩
section
variable {X:Cx}
theorem Cb {a z TI TO c d:M1}(s:[z,TI,TO,c,d].Nodup)(hz:zDQ h z TI TO .none)(G:zAX h TI (.ref c) (.ref d))(l:zAX h TO u v)(m:h.IsListIter c a k1) (E:h.IsStrIter d SI y w k2) (p:PlainL h a xs):zBZ z TI TO c d a a:=by
 obtain⟨R,k,H,K⟩:=m;obtain⟨Q,j,F,M⟩:=E;obtain⟨P,N,J,O,_,I⟩:=p;ext;obtain⟨⟨r,A,g,i⟩,⟨B,t,D⟩,⟨C,n⟩,f⟩:=s;have b:∀{x:M1} {o:Obj},h.get? x=some o->o.cls≠.type "list"->a≠x:=λ{x o} e L q=>by ext
 exact⟨Ne.symm r,Ne.symm A,Ne.symm g,Ne.symm i,B,t,D,C,n,f,b hz (by simp),b l (by simp),b k (by lia),b j (by grind),b hz (by simp),b l (by simp),b k (by lia),b j (by grind)⟩
theorem Lk {K:zzA}(a z TI TO f g:M1)(t:Str)(tk:Tok)(V:[z,TI,TO,f,g].Nodup) : Turn P w K (.Tuple W k pos) (JV K a t) [z,TI,TO,f,g] z (λi h=>zDQ h z TI TO .none/\zAX h TI (.ref f) (.ref g)/\(∃u v,zAX h TO u v)/\h.IsListIter f a i/\h.IsStrIter g SI t tk i) where
 mem:=by simp
 obj:=λi h st c b=>by obtain⟨J,C,⟨u,v,O⟩,⟨o1,e1,c1,d1⟩,⟨o2,e2,c2,d2⟩⟩:=st;grind
 keep:=λi h h' st S=>by obtain⟨J,C,⟨u,v,O⟩,F,M⟩:=st;exact⟨S z (by simp) _ J,S TI (by simp) _ C,(by grind),F.at (by grind),(let ⟨o,e,r⟩:=M; ⟨o,(by ext),r⟩)⟩
 item:=by
  intro X hP hw hK b i G s σ H E I j st Z;subst hP hw hK;refine hold λP_2 k_2=>?_;obtain⟨xs,x,A,hx,hy⟩:=Z;have hyc:t.cps[i]?=some t.cps[i]:=zA5 hy;obtain⟨J,C,⟨u0,v0,O⟩,F,M⟩:=id st;obtain⟨its,rv,p,_⟩:=I.list A;obtain⟨u,hu,ru⟩:=rv.get hx;refine k_2 ?_;have TJ:RelV (e_ t i) (.str ⟨#[t.cps[i]]⟩ s.toks):=⟨s.toks,by ext⟩;have D:zBZ z TI TO f g a a:=Cb V J C O F M p;refine Li D J C O F M p.isList (x:=u) (by ext) hyc λh' a1 a2 a3 a4 a5 S=>?_;refine⟨_,rfl,zCW a1 λL b1 U=>?_⟩;have nT:∀c∈[z,TI,TO,f,g],c≠s.heap.objs.size:=λc b=>by obtain⟨o,e,_⟩:=(show ∀c∈[z,TI,TO,f,g],∃o,s.heap.get? c=some o/\True from λc b=>by simp only [u1,zAe,zA0] at b;obtain⟨o1,e1,_⟩:=F;obtain⟨o2,e2,_⟩:=M;grind) c b;exact wE (vT e)
  have R:H s.heap.objs.size=none:=I.fresh;have l:∀c o,c∉[z,TO,f,g]->s.heap.get? c=some o->L.get? c=some o:=λc o b e=>by simp only [u1,zAe,zA0,not_or] at b;exact (U.2 c b.1).trans (by ext)
  have N:∀c∈[z,TO,f,g],H c=none:=λc b=>by simp only [u1,zAe,zA0] at b;rcases b with rfl | rfl | rfl | rfl <;> exact (j _ (by simp)).1
  have I1:Inv X G σ (upd H s.heap.objs.size (.tup [x,e_ t i])) { s with heap:=L,toks:=s.toks+1 }:=by
   refine I.step (g':=s.gens) (d':=s.drawn) (t':=s.toks+1) (ch:=[z,TO,f,g]) (λc b=>?_) (λc o _ _ b e _=>l c o b e) (λc o _ _ b e _=>⟨o.slots,l c o b e⟩) (λc o b e n=>?_) (λc o b e=>⟨o,l c o b e⟩) (λc y e=>?_) (λc o y e=>?_) (λc y e=>⟨#[],?_⟩) (λm Y=>?_) (λc y e=>?_) I.bare
   ·simp only [u1,zAe,zA0] at b;have:c∈[z,TI,TO,f,g]:=by
     simp only [u1,zAe,zA0];rcases b with q | q | q | q;·exact .inl q
     ·exact .inr (.inr (.inl q))
     ·exact .inr (.inr (.inr (.inl q)))
     ·exact .inr (.inr (.inr (.inr q)))
    obtain⟨f0,f1,f2,f3,f4,f5⟩:=j c this;exact⟨f3,f1,f4,f5⟩
   ·rw[aD (wE (vT e))]; exact n
   ·rw[aD (aS e R)]; exact e
   ·rw[aD (aS e R)]; exact e
   ·rw[aD (aS e R),e]; rfl
   ·obtain⟨o,es,ep,ho,r⟩:=Y;refine⟨o,es,ep,l _ o (λq=>?_) ho,r⟩;simp only [u1,zAe,zA0] at q;rcases q with q | q | q | q;·exact (j z (by simp)).2.1 q.symm
    ·exact (j TO (by simp)).2.1 q.symm
    ·exact (j f (by simp)).2.1 q.symm
    ·exact (j g (by simp)).2.1 q.symm
   ·by_cases T:c=s.heap.objs.size
    ·subst T;rw[aq] at e;cases e;have e5:L.get? s.heap.objs.size=some { cls:=.type "tuple",data:=.seq #[u,.str ⟨#[t.cps[i]]⟩ s.toks] }:=(U.2 _ (Ne.symm (nT z (by simp)))).trans a5;exact⟨(by show 2<=PK; decide),[u,.str ⟨#[t.cps[i]]⟩ s.toks],.cons ru (.cons TJ .nil),_,e5,rfl,_,rfl⟩
    ·rw[aD T] at e;refine (I.hok c y e).stay (λd w' hd q=>l d w' (λq2=>?_) q) (λd q=>?_) λd ws q=>?_
     ·have B:=N d q2;rcases hd with Q | Q;·rw[Q,e] at B; cases B
      ·rw[Q] at B; cases B
     ·rw[aD (aS q R)]; exact q
     ·rw[aD (aS q R)]; exact q
  refine⟨.ref s.heap.objs.size,_,I1,rfl,⟨_,rfl,R,x,rfl,λzs hz'=>by rw[I.pM hz' A]; exact hx⟩,?_,λc b=>?_⟩
  ·refine⟨b1,?_,⟨u,.str ⟨#[t.cps[i]]⟩ s.toks,?_⟩,?_,?_⟩;·exact l TI _ (by simp only [zB6,u1,zAe,zA0,not_or] at V ⊢; exact⟨λq=>V.1.1 q.symm,V.2.1⟩) C
   ·exact (U.2 _ D.TOz).trans a2
   ·exact a3.extBut U.extBut D.i1z
   ·exact a4.extBut U.extBut D.i2z
  ·rw[aD (nT c b)]; exact (j c b).1
 done:=by
  intro X hP hw hK b i G s σ H E I j st Z;subst hP hw hK;obtain⟨xs,A,hend⟩:=Z;obtain⟨J,C,⟨u0,v0,O⟩,F,M⟩:=id st;obtain⟨its,rv,p,_⟩:=I.list A;have D:zBZ z TI TO f g a a:=Cb V J C O F M p;have l1:=rv.length;refine C4 (I.ok.hd b) D J C O F p.isList (by simp; ext) λh' S=>⟨rfl,?_⟩;have l:∀c o,c∉[z,TO,f,g]->s.heap.get? c=some o->h'.get? c=some o:=λc o b e=>by simp only [u1,zAe,zA0,not_or] at b;exact S c o b.1 b.2.1 b.2.2.1 b.2.2.2 e
  have N:∀c∈[z,TO,f,g],H c=none:=λc b=>by simp only [u1,zAe,zA0] at b;rcases b with rfl | rfl | rfl | rfl <;> exact (j _ (by simp)).1
  refine I.step (g':=s.gens) (d':=s.drawn) (t':=s.toks) (ch:=[z,TO,f,g]) (λc b=>?_) (λc o _ _ b e _=>l c o b e) (λc o _ _ b e _=>⟨o.slots,l c o b e⟩) (λc o b e n=>n) (λc o b e=>⟨o,l c o b e⟩) (λc y e=>e) (λc o y e=>e) (λc y e=>⟨#[],by rw[e]; rfl⟩) (λm Y=>?_) (λc y e=>?_) I.bare
  ·simp only [u1,zAe,zA0] at b;have:c∈[z,TI,TO,f,g]:=by
    simp only [u1,zAe,zA0];rcases b with q | q | q | q;·exact .inl q
    ·exact .inr (.inr (.inl q))
    ·exact .inr (.inr (.inr (.inl q)))
    ·exact .inr (.inr (.inr (.inr q)))
   obtain⟨f0,f1,f2,f3,f4,f5⟩:=j c this;exact⟨f3,f1,f4,f5⟩
  ·obtain⟨o,es,ep,ho,r⟩:=Y;refine⟨o,es,ep,l _ o (λq=>?_) ho,r⟩;simp only [u1,zAe,zA0] at q;rcases q with q | q | q | q;·exact (j z (by simp)).2.1 q.symm
   ·exact (j TO (by simp)).2.1 q.symm
   ·exact (j f (by simp)).2.1 q.symm
   ·exact (j g (by simp)).2.1 q.symm
  ·refine (I.hok c y e).stay (λd w' hd q=>l d w' (λq2=>?_) q) (λd q=>q) λd ws q=>q;have B:=N d q2;rcases hd with Q | Q;·rw[Q,e] at B; cases B
   ·rw[Q] at B; cases B
 self:=λ_ _ _ _ _ st h=>zCG st.1 h
noncomputable def JW (K:zzA)(f:TA):TI:=fun σ H R=>f σ H λd c=>∃a y,d=[.ref a,.str y]/\(∃e,ay K c a e)/\y.cps.all (· < 128)=true/\R (JV K a y) c
theorem Rm (F:Gl X "zip")(C:X.mg "zip"=none)(A:PA X [a,b] o)(Y:zAG [a,b] X.env=[(false,zAM a X.env),(false,zAM b X.env)]:=by rfl)(n:zAG [b] X.env=[(false,zAM b X.env)]:=by rfl) : PI X (.Tuple f k d) (.Call (.Name "zip" p) [a,b] [] g) (JW X.K o):=by
 intro l s σ H R I h;refine Call_ (nO I F C boot_zip (zBi (aQ (A g l s σ H _ I h) λV c ⟨Q,G,m,w,L⟩=>?_) (by ext) (by rw[n]; rfl)));obtain⟨x,y,e,⟨N,E⟩,j,q⟩:=L;subst e;obtain⟨u,v,rfl,z,rv⟩:=vals2 w;cases z;obtain⟨B,rfl⟩:=rv;obtain⟨K,D,J,_⟩:=m.list E;refine Lj j J.isList λW M U O T S t=>zCG M ?_;refine⟨c.heap.objs.size+4,[c.heap.objs.size+4,c.heap.objs.size+2,c.heap.objs.size+3,c.heap.objs.size,c.heap.objs.size+1],_,_,G,rfl,m.kept t,Lk x _ _ _ _ _ y B ?_,(by grind),λb P=>?_,q⟩;·simp
 ·have r:c.heap.objs.size<=b:=by grind
  exact m.vA r (m.hok.fresh r)
end
section
variable {K:zzA}{ix:List (Option Nat)}{te ta tb:TE}{tt:TA}{g:TG}{tf:TT}{σ:St}{H H1:Hp}{Q:M1->Hp->Prop}{R:VK}
theorem C5 {a:M1}{xs:List V}{b:Str}{u r:Nat}(f:Nat->V)(n:ay K H1 a xs)(G:xs.length=b.cps.size)(hz:xs.length<=PK)(A:∀(i:Nat) (x y:V) (H:Hp) (R:VK),xs[i]?=some x->i < b.cps.size->y=e_ b i->ah H1 H->(∀l,ah H l->R (f i) l)->te (((dS ix σ).set u (some x)).set r (some y)) H R)(B:∀D H,H1 D=none->ah H1 H->H D=some (.lst ((range xs.length).map f))->Q D H):cL (JV K a b) ix (rB K 2 (gJ (cz u) (gJ (cz r) t_))) ly te σ H1 Q:=by
 intro D o;refine⟨λi m s H=>m=xs.length - i/\i<=xs.length/\ah H1 H/\s=(range i).map f,⟨xs.length,by simp,zAb _,ah.new o _,by rfl⟩,?_⟩;rintro i m s H ⟨rfl,E,c,p⟩ d;by_cases j:i < xs.length
 ·have q:=y8 j;refine .inr ⟨⟨xs,xs[i],c.seq n,q,by lia⟩,λv I y=>?_⟩;obtain⟨t,rfl,z,F,rfl,C⟩:=y;have h:=C xs (c.seq n);rw[q] at h;cases h;have k:ah H (upd H t (.tup [xs[i],e_ b i])):=ah.new z _;refine⟨t,_,rfl,aG.of aq,rfl,xs[i],_,rfl,e_ b i,_,rfl,rfl,?_⟩;refine A i _ _ _ _ q (by lia) rfl (c.trans k) λl w=>?_;refine⟨w _ _ (k _ _ d),?_,xs.length - (i+1),by grind,rfl,j,((c.trans k).trans w).put o _,?_⟩;·rw[p,yB,zBn]; lia
  ·rw[p,zA2,v4]; rfl
 ·have e:i=xs.length:=by lia
  subst e;refine .inl ⟨⟨xs,c.seq n,y6 _⟩,B D H o c ?_⟩;rw[d,p]
theorem EF {a b:M1}{xs ys:List V}{B z:Nat}(f:Nat->V)(n:ay K H1 a xs)(k:ay K H1 b ys)(M:xs.length=ys.length)(hz:xs.length<=PK)(G:∀(i:Nat) (x y:V) (H:Hp) (R:VK),xs[i]?=some x->ys[i]?=some y->ah H1 H->(∀s,ah H s->R (f i) s)->te (((dS ix σ).set B (some x)).set z (some y)) H R)(C:∀D H,H1 D=none->ah H1 H->H D=some (.lst ((range xs.length).map f))->Q D H):cL (Es K a b) ix (rB K 2 (gJ (cz B) (gJ (cz z) t_))) ly te σ H1 Q:=by
 intro D r;refine⟨λi m w H=>m=xs.length - i/\i<=xs.length/\ah H1 H/\w=(range i).map f,⟨xs.length,by simp,zAb _,ah.new r _,by rfl⟩,?_⟩;rintro i m w H ⟨rfl,O,c,p⟩ o;by_cases h:i < xs.length
 ·have l:=y8 h;have u:ys[i]?=some ys[i]:=y8 _;refine .inr ⟨⟨xs,ys,xs[i],ys[i],c.seq n,c.seq k,l,u⟩,λv J y=>?_⟩;obtain⟨t,rfl,E,N,L,rfl,F,I⟩:=y;have j:=F xs (c.seq n);have d:=I ys (c.seq k);rw[l] at j; rw[u] at d;cases j; cases d;have q:ah H (upd H t (.tup [xs[i],ys[i]])):=ah.new E _;refine⟨t,_,rfl,aG.of aq,rfl,xs[i],_,rfl,ys[i],_,rfl,rfl,?_⟩;refine G i _ _ _ _ l u (c.trans q) λs A=>?_;refine⟨A _ _ (q _ _ o),?_,xs.length - (i+1),by grind,rfl,h,((c.trans q).trans A).put r _,?_⟩;·grind
  ·rw[p,zA2,v4]; rfl
 ·have e:i=xs.length:=by lia
  refine .inl ⟨⟨xs,ys,c.seq n,c.seq k,(by ext)⟩,C D H r c ?_⟩;ext
theorem Rn {a:M1}{y:Str}{xs:List V}(h:Ga tt σ H [.ref a,.str y])(b:ay K H a xs)(d:y.cps.all (· < 128)=true)(k:∀H',ah H H'->ay K H' a xs->cL (JV K a y) ix g tf te σ H' λe c=>R (.ref e) c):oY (JW K tt) ix g tf te σ H R:= h _ λH' s=>⟨a,y,rfl,⟨xs,s.seq b⟩,d,k H' s (s.seq b)⟩
end
section
variable {X:Cx}(K:zzA)
theorem Uh (g:X.mg "zip"=none)(j:PA X [a,b] t)(h:X.K=K:=by rfl)(l:Gl X "zip":=by rfl)(i:zAG [a,b] X.env=[(false,zAM a X.env),(false,zAM b X.env)]:=by rfl)(f:zAG [b] X.env=[(false,zAM b X.env)]:=by rfl) : PI X (.Tuple c k d) (.Call (.Name "zip" p) [a,b] [] e) (JW K t):=h ▸ Rm l g j i f
end
end L2
namespace TB
open PySem PySem.Spec
namespace SF
theorem qM:entryFor table "dict.update.loop"=some Builtin.«dict.update.loop»:=entryFor_of_tree (by kernel_rfl)
theorem iD:plainId "dict.update.loop"=true:=by decide +kernel
theorem Ll:zDZ (.type "list") "keys"=pure none:=am_miss_of_fast (by rfl)
end SF
section
variable {prog:zAA}{w:zAE}{K:Type}[DecidableEq K]{knd:KeyKind prog w K}{A:zAI}{E:zzE}{s:VV}
theorem Ui {a:M1}{o:Obj}{xs:Array Value}{k:Nat}{Q:Option Value->VV->Prop}(n:s.heap.get? a=some o)(v:o.cls=.type "list")(i:o.data=.seq xs k)(x:o.dict=none)(y:A.handled=none)(h:∀h' p,(∀b m,s.heap.get? b=some m->h'.get? b=some m)->Q none { s with heap:=h',toks:=p }) : zAC (zAD prog w) A (getAttr? (.ref a) "keys") Q E s:=by
 obtain⟨c,r,u,t⟩:=o;subst v i x;obtain⟨q,g,d,p,os⟩:=s;have z:∀j,(⟨q,g,d,j,os⟩:VV).TypeIs (.ref a) _:=λ_=>⟨_,n,rfl⟩;have C:=sub_AttributeError;have B:=F.slot_list_getattribute.lookup;have L:=F.slot_list_getattribute.bind (.ref a);have G:=am_list_getattr_none;repeat (any_goals (first | ((with_reducible show zAC _ _ (call _ _ _) _ _ _); refine zBP F.slot_list_getattribute (z _) am_entry_list_getattribute (F.args_list_getattribute_2 _ _) (meets_getattribute_miss_list a xs k t _ _ SF.Ll (by rfl) (by decide +kernel)) ⟨n,y,λh' j e f=>?_⟩) | wp_step))
 obtain⟨D,H,I⟩:=f.there;unfold getattributeRaised;repeat (any_goals (first | wp_step))
 all_goals first | exact h _ _ f.keeps
noncomputable def pQ (h:Heap)(c a:M1):Prop:=∃o n,h.get? c=some o/\o.cls=.type "tuple"/\o.data=.seq #[.ref a,.bool true] n
theorem pQ.at_ (x:pQ h c a)(k:∀o,h.get? c=some o->h'.get? c=some o):pQ h' c a:=by obtain⟨o,n,b,r⟩:=x;exact⟨o,n,k o b,r⟩
theorem dictAt {h h':Heap}(x:h.DictOfH (zAT knd) S a)(k:∀o,h.get? S=some o->h'.get? S=some o)(c:∀x∈a,∀o,h.get? x.2.1=some o->h'.get? x.2.1=some o):h'.DictOfH (zAT knd) S a:=by obtain⟨o,i,e,d,j,f,l,m,g⟩:=x;exact⟨o,i,e,k o d,j,f,l,λx b=>iT (m x b) (c x b),g⟩
theorem EG (xs:List (List K × M1 × Value))(k:List K)(a:M1)(v:Value)(c:List K):(zAS (zBD xs k a v) c).isSome=((zAS xs c).isSome||decide (k=c)):=by
 have b:∀(d:List (List K × M1 × Value)) (q:List K),(zAS d q).isSome=d.any λx=>decide (x.1=q):=λd q=>by unfold zAS;rw[Option.isSome_map,zC6,List.find?_isSome];simp
 rw[b,b];unfold zBD;split
 ·rename_i f;rw[b] at f;rw[List.any_map];have e:((λx:List K × M1 × Value=>decide (x.1=c)) ∘ zDR k v)=λx=>decide (x.1=c):=by funext x;show decide ((zDR k v x).1=c)=_;unfold zDR;split <;> rfl
  rw[e];by_cases q:k=c;·subst q; rw[f]; rfl
  ·simp [q]
 ·rw[List.any_append]; simp
theorem JX (xs:List (List K × M1 × Value))(k:List K)(a:M1)(v:Value):(zBD xs k a v).length<=xs.length+1:=by unfold zBD;split <;> simp
variable {I:M1}{fp wr:List M1}{n:Nat}{P:Nat->Value->Prop}{St:Nat->Heap->Prop}{R:Result->VV->Prop}
theorem WL (W:Walks prog w A.in1 I fp wr n P St)(S:M1)(M:S∉fp){xs:List (M1 × M1 × List K)}(hn:xs.length=n)(N:∀(i:Nat) (v:Value),P i v->∃p,xs[i]?=some p/\v=.ref p.1)(hw:∀p∈xs,p.1∉wr/\p.2.1∉wr)(hu:A.in1.units < zAN) (hz:xs.length<=2000) : ∀(k i:Nat) (s:VV) (t:List (List K × M1 × Value)),n - i=k->i<=n->St i s.heap->s.heap.DictOfH (zAT knd) S t->(∀p∈xs,pQ s.heap p.1 p.2.1/\zAH knd s.heap p.2.2 p.2.1)->t.length<=i->(∀q,(zAS t q).isSome=true↔∃p∈xs.take i,p.2.2=q)->(∀x∈t,∃p∈xs,x.1=p.2.2/\x.2.1=p.2.1)->(∀h' L D,(∀b o,b≠S->b∉wr->s.heap.get? b=some o->h'.get? b=some o)->h'.DictOfH (zAT knd) S D->(∀q,(zAS D q).isSome=true↔∃p∈xs,p.2.2=q)->(∀x∈D,∃p∈xs,x.1=p.2.2/\x.2.1=p.2.1)->R (.ok (.ret .none)) { s with heap:=h',toks:=L })-> zBK (zAD prog w) A (.builtin "dict.update.loop" ⟨[.ref S,.ref I,zBX i,.none],[]⟩) R s:=by have X:S∉wr:=λh=>M (W.sub _ h);intro k;induction k with
 | zero=>
  intro i s t hk hi F hS g hl m f hR;obtain rfl:i=n:=by lia
  refine zBq SF.qM ?_;rw[zBj SF.iD _];show zAC _ A.in1 (zBU (.ref I) >>= _) _ _ s;refine yA (W.done s _ _ F λh' L j=>?_);show zAC _ A.in1 (Builtin.Dict.addKeywords S [] >>= λ_=>ret Value.none) _ _ _;refine yA (y4 (y4 (hR h' L t (λb o _ Q e=>j b o Q e) (dictAt hS (λo e=>j S o X e) λx u o e=>?_) ?_ f)))
  ·obtain⟨p,G,_,l⟩:=f x u;exact j _ o (by rw[l]; exact (hw p G).2) e
  ·rw[<-hn,zAd] at m;exact m| succ k ih=>
  intro i s t hk hi F hS g hl m f hR;have U:i < n:=by lia
  refine zBq SF.qM ?_;rw[zBj SF.iD _];show zAC _ A.in1 (zBU (.ref I) >>= _) _ _ s;refine yA (W.item i s _ _ U F λv h' L hP J j=>?_);obtain⟨p,G,rfl⟩:=N i v hP;have C:p∈xs:=j1 G;have V:h'.DictOfH (zAT knd) S t:=dictAt hS (λo e=>j S o X e) λx u o e=>by obtain⟨p,G,_,l⟩:=f x u;exact j _ o (by rw[l]; exact (hw p G).2) e
  have a:∀q∈xs,pQ h' q.1 q.2.1/\zAH knd h' q.2.2 q.2.1:=λq B=>⟨(g q B).1.at_ λo e=>j _ o (hw q B).1 e,iT (g q B).2 λo e=>j _ o (hw q B).2 e⟩;obtain⟨oc,nc,O,hcc,hdc⟩:=(a p C).1;dsimp only;refine yA (zBg ?_);refine yA (wpAny_tryCatch ?_);unfold Builtin.Dict.pairItems;refine yA (zCp (T:="tuple") ⟨oc,O,hcc⟩ ?_);rw[v6 (by decide)];refine yA (zB0 O hdc (y4 ?_));show zAC _ A.in1 (zBV [Value.ref p.2.1,.bool true] (dictSet S (.ref p.2.1) (.bool true))) _ _ _;refine zBg ?_;refine wpAny_dictSet_heap (s:={ s with heap:=h',toks:=L }) (knd:=zAT knd) (k:=p.2.2) hu (a p C).2 V (λh2 zV sb=>?_) (by rw[u4]; lia);have d:∀b o,b≠S->h'.get? b=some o->h2.get? b=some o:=λb o Q e=>(sb.2 b Q).trans e;have ne:∀{c:M1} {o:Obj},h'.get? c=some o->o.cls=.type "tuple"->c≠S:=λ{c o} e hc z=>by obtain⟨od,_,_,hod,ex,_⟩:=V;rw[z,hod] at e;cases e;rw[ex.1] at hc;exact absurd hc (by decide)
  have hle:=JX t p.2.2 p.2.1 (.bool true);refine y4 ⟨zCw SF.iD _,ih (i+1) _ _ (by grind) U (W.frame _ _ _ J λb Q o e=>d b o (λ(h:b=S)=>M (h ▸ Q)) e) zV (λq B=>?_) (by lia) (λq=>?_) (λx u=>?_) λh3 tk3 Z1 kp Uj a3 m3=>?_⟩
  ·obtain⟨o1,n1,Y,c1,d1⟩:=(a q B).1;refine⟨⟨o1,n1,d _ _ (ne Y c1) Y,c1,d1⟩,?_⟩;obtain⟨o2,i2,n2,l,c2,r2⟩:=(a q B).2;exact⟨o2,i2,n2,d _ _ (ne l c2) l,c2,r2⟩
  ·rw[EG,Bool.or_eq_true,decide_eq_true_iff,m q];have htk:xs.take (i+1)=xs.take i++[p]:=by rw[zAm,G]; rfl
   rw[htk];constructor
   ·rintro (⟨r,H,e⟩ | e);·exact⟨r,zB2 _ H,e⟩
    ·exact⟨p,by simp,e⟩
   ·rintro⟨r,H,e⟩;rcases w8.mp H with z | z;·exact .inl ⟨r,z,e⟩
    ·rw[wP.mp z] at e; exact .inr e
  ·unfold zBD at u;split at u
   ·obtain⟨y,hy,rfl⟩:=xL.mp u;obtain⟨r,H,Y,l⟩:=f y hy;refine⟨r,H,?_⟩;unfold zDR;split;·exact⟨Y,l⟩
    ·exact⟨Y,l⟩
   ·rcases w8.mp u with z | z;·exact f x z
    ·rw[wP.mp z]; exact⟨p,C,rfl,rfl⟩
  ·exact hR h3 tk3 Z1 (λb o h1 Z e=>kp b o h1 Z (d b o h1 (j b o Z e))) Uj a3 m3
theorem JY {l:M1}{t:Obj}{Y:Nat}{xs:List (M1 × M1 × List K)}{Q:zzE}(hh:A.handled=none)(C:s.heap.get? l=some t)(r:t.cls=.type "list")(y:t.data=.seq (xs.map λp=>Value.ref p.1).toArray Y)(U:t.dict=none)(g:∀p∈xs,pQ s.heap p.1 p.2.1/\zAH knd s.heap p.2.2 p.2.1) (hu:A.units+8 < zAN) (hz:xs.length<=2000)(h:∀(h':Heap) (O:Nat) (G:List (List K × M1 × Value)),h'.DictOfH (zAT knd) s.heap.objs.size G->(∀q,(zAS G q).isSome=true↔∃p∈xs,p.2.2=q)->(∀x∈G,∃p∈xs,x.1=p.2.2/\x.2.1=p.2.1)->(∀b o,s.heap.get? b=some o->h'.get? b=some o)->Q (.ref s.heap.objs.size) { s with heap:=h',toks:=O }) : zAC (zAD prog w) A (call (.type "dict") [.ref l]) Q E s:=by
 refine callType_codes (Q₁:=λD s₁=>D=.ref s.heap.objs.size/\s₁={ s with heap:=s.heap.push { cls:=.type "dict",data:=.dict #[] } }) F.kt_called_dict (F.kt_typeCall_dict_1 _) F.entry_dict_init (kt_code_dict_new _ ⟨rfl,rfl⟩) ?_;rintro D s₁ ⟨rfl,rfl⟩;have k:(s.heap.push { cls:=.type "dict",data:=.dict #[] }).DictOfH (zAT knd) s.heap.objs.size []:=Heap.DictOfH.new s.heap;have m:(s.heap.push { cls:=.type "dict",data:=.dict #[] }).get? l=some t:=y1 _ C;have S:l < s.heap.objs.size:=vT C;refine⟨k.typeIs,F.args_dict_init_2 _ _,?_⟩;unfold Builtin.«dict.__init__»;refine yA ?_;unfold Builtin.Dict.selfAndRest;refine yA (zCB k.typeIs ?_);show zAC _ _ (pure (s.heap.objs.size,[Value.ref l])) _ _ _;refine y4 ?_;show zAC _ _ (updateFrom "dict.__init__" s.heap.objs.size (.ref l) [] .none) _ _ _;unfold updateFrom;refine yA (zCp (T:="list") ⟨t,m,r⟩ ?_);rw[v6 (by decide)];refine yA (Ui m r y U (by simp [hh]) λd Z V=>?_);simp only [Option.isNone_none,if_true];have L:d.DictOfH (zAT knd) s.heap.objs.size []:=dictAt k (λo e=>V _ o e) λx J=>absurd J (by simp);have u:d.get? l=some t:=V _ _ m;have X:d.IsList l (xs.map λp=>Value.ref p.1).toArray:=⟨t,u,r,Y,y⟩;have f:∀b o,s.heap.get? b=some o->d.get? b=some o:=λb o e=>V b o (y1 _ e);have B:s.heap.objs.size < d.objs.size:=by obtain⟨o,_,_,ho,_⟩:=L;exact vT ho
 have H:l < d.objs.size:=vT u;refine yA (zBO (yA (zCx (s:={ s with heap:=d,toks:=Z }) X ?_)));have j:∀b o,d.get? b=some o->(d.push { cls:=.type "list_iterator",data:=.fields #[.ref l,.int 0 0] }).get? b=some o:=λb o e=>y1 _ e;have N:(d.push { cls:=.type "list_iterator",data:=.fields #[.ref l,.int 0 0] }).get? d.objs.size=some { cls:=.type "list_iterator",data:=.fields #[.ref l,.int 0 0] }:=u3 _ rfl;generalize d.push { cls:=.type "list_iterator",data:=.fields #[.ref l,.int 0 0] }=h2 at *;have W:=Walks.list (prog:=prog) (w:=w) (A:=A.in1.in1) (by simp [hh]) d.objs.size l (wE H) (xs.map λp=>Value.ref p.1).toArray;refine y4 ⟨zCw SF.iD _,WL (knd:=knd) W s.heap.objs.size ?_ (xs:=xs) (by simp) (λi v hv=>?_) (λp z=>?_) (by simp only [Around.in1]; lia) hz _ 0 _ [] rfl (zAb _) ⟨⟨_,N,rfl,rfl⟩,⟨t,j _ _ u,r,Y,y⟩⟩ (dictAt L (λo e=>j _ o e) λx J=>absurd J (by simp)) (λp z=>⟨(g p z).1.at_ λo e=>j _ o (f _ o e),iT (g p z).2 λo e=>j _ o (f _ o e)⟩) (y6 _) (λq=>?_) (λx J=>absurd J (by simp)) λh' O G kp M m1 m2=>?_⟩
 ·simp only [u1,zBx,zA0,not_or];exact⟨wE B,zCq S⟩
 ·simp at hv;obtain⟨a,⟨b,c,z⟩,rfl⟩:=hv;exact⟨(a,b,c),z,rfl⟩
 ·obtain⟨⟨o1,_,e1,_⟩,⟨o2,_,_,e2,_⟩⟩:=g p z;simp only [u1,zBx,zA0];exact⟨wE (vT (f _ _ e1)),wE (vT (f _ _ e2))⟩
 ·simp [zAS]
 ·refine⟨rfl,h h' O G M m1 m2 λb o e=>kp b o (wE (vT e)) ?_ (j _ _ (f _ _ e))⟩;simp only [u1,zBx,zA0];exact wE (vT (f _ _ e))
end
end TB
namespace L2
open PySem PySem.Spec PyProof.Rows
noncomputable def YZ (prog:zAA)(w:zAE)(h:Heap)(S:M1)(b:List (List Int × M1 × Value)):Prop:=(S == zAO)=false/\∃o a c,h.get? S=some o/\o.ExactDict/\o.data=.dict a c/\a.toList=b.map (zDY (zAT (zAQ prog w)))/\(b.map (·.1)).Nodup
noncomputable def zW (prog:zAA)(w:zAE)(S:M1)(a:List (List Int × M1 × Value)):HO:=.ext λh=>YZ prog w h S a
abbrev Uk (p:M1 × M1 × List Int):V:=.ref p.1
theorem EH:∀{ps:List (M1 × M1 × List Int)} {us:List Value},Vals (ps.map Uk) us->us=ps.map λp=>Value.ref p.1| [],_,.nil=>rfl| p::ps,u::us,.cons r t=>by have e:=r;rw[e,EH t];rfl
section
variable {X:Cx}{pins:zzC}{σ:St}{H:Hp}{s:VV}
theorem Inv.pair (I:Inv X pins σ H s)(h:aG X.K H c [.ref a,.bl true]):TB.pQ s.heap c a:=by obtain⟨b,r,⟨o,d,f,n,g⟩,_⟩:=I.tuple h;obtain⟨u,v,rfl,e,rv⟩:=vals2 r;cases e;cases rv;exact⟨o,n,d,f,g⟩
noncomputable def Pj (K:zzA)(prog:zAA)(w:zAE):List V->Hp->VK->Prop:=λd H Q=>∃(l:M1) (a:List (M1 × M1 × List Int)),d=[.ref l]/\ay K H l (a.map Uk)/\(∀p∈a,aG K H p.1 [.ref p.2.1,.bl true]/\aG K H p.2.1 (p.2.2.map V.int))/\a.length<=2000/\ ∀(S:M1) (c:List (List Int × M1 × Value)),H S=none->(∀q,(zAS c q).isSome=true↔∃p∈a,p.2.2=q)->(∀x∈c,∃p∈a,x.1=p.2.2/\x.2.1=p.2.1)->Q (.ref S) (upd H S (zW prog w S c))
theorem JZ (A:X.calm=true)(V:X.A.units+64 < zAN):b_ X (.type "dict") (Pj X.K X.prog X.w):=by
 intro pins s σ H U S Q I r h;obtain⟨l,T,rfl,D,v,L,q⟩:=h;obtain⟨u,rfl,B⟩:=vals1 r;cases B;obtain⟨y,O,⟨o,n,d,g,b,m⟩,_⟩:=I.list D;rw[EH O] at m;have c:zAO < s.heap.objs.size:=by have h:=(I.mod.glob.keeps I.bk).lt;exact Nat.lt_trans (by decide) h
 refine TB.JY (I.ok.hd A) d g m b (λp i=>⟨I.pair (v p i).1,I.key (v p i).2⟩) (by lia) L λF P j w C M z=>?_;obtain⟨t,f,e,a,G,J,N,_,K⟩:=w;refine⟨.ref s.heap.objs.size,_,I.laid z (y6 _) (show bI X.prog X.w _ F _ (zW X.prog X.w s.heap.objs.size j) from ⟨⟨beq_eq_false_iff_ne.mpr (zCq c),t,f,e,a,G,J,N,K⟩,⟨t,a⟩,λR Y x k=>?_⟩),rfl,q _ j (I.hok.fresh (y6 _)) C M⟩;obtain⟨E,o,f,e,d,r⟩:=x;exact⟨E,o,f,e,k o d,r⟩
noncomputable def NQ (K:zzA)(prog:zAA)(w:zAE):R2:=λx y H Q=>∃(b d:M1) (k:List Int) (c:List (List Int × M1 × Value)),x=.ref b/\y=.ref d/\aG K H b (k.map V.int)/\H d=some (zW prog w d c)/\(∀x∈c,aG K H x.2.1 (x.1.map V.int))/\Q (.bl (zAS c k).isSome) H
theorem Ul (z:X.A.units+64 < zAN):dU X (zAK .In) (NQ X.K X.prog X.w):=by intro pins s σ H x y u v Q I p a h;obtain⟨b,d,k,A,rfl,rfl,t,r,i,q⟩:=h;cases p; cases a;obtain⟨⟨m,o,w,f,j,g,c,n,e⟩,_⟩:=(show bI X.prog X.w H s.heap d _ from I.hok d _ r);exact wpAny_in_heap (zBE (by lia)) (I.key t) m ⟨o,w,f,j,g,c,n,λx l=>I.key (i x l),e⟩ ⟨.bl _,H,I.tok _,rfl,q⟩
end
section
variable {X:Cx}(K:zzA)
theorem Um (P:zAA)(w:zAE)(b:X.A.units+64 < zAN)(h:X.K=K:=by rfl)(c:X.prog=P:=by rfl)(d:X.w=w:=by rfl)(a:X.calm=true:=by rfl):b_ X (.type "dict") (Pj K P w):=by subst h; exact JZ a b
theorem Y0 (P:zAA)(w:zAE)(a:X.A.units+64 < zAN)(h:X.K=K:=by rfl)(b:X.prog=P:=by rfl)(c:X.w=w:=by rfl):dU X (zAK .In) (NQ K P w):=by subst h; exact Ul a
end
end L2
namespace TB
open PySem PySem.Spec L2
mutual noncomputable def iE (h:Heap):Dt->Value->Prop| .int i,v=>∃t,v=.int i t| .str x,v=>PyData.strOk x=true/\∃t,v=.str x t| .tup ds,v=>∃a o items n,v=.ref a/\h.get? a=some o/\o.cls=.type "tuple"/\o.data=.seq items n/\gc h ds items.toList| _,_=>False noncomputable def gc (h:Heap):List Dt->List Value->Prop| [],vs=>vs=[]| d::ds,vs=>∃v r,vs=v::r/\iE h d v/\gc h ds r end
mutual noncomputable def pR:Dt->Nat| .tup ds=>gu ds+1| _=>0 noncomputable def gu:List Dt->Nat| []=>0| d::ds=>max (pR d) (gu ds) end
mutual noncomputable def J0 (P:zAA)(w:zAE):Dt->Int| .int i=>(zAQ P w).hash i| .str x=>(strKind P w).hash x| .tup ds=>reduceHash (Builtin.Tuple.tupleHashOf (sV P w ds))| _=>0 noncomputable def sV (P:zAA)(w:zAE):List Dt->List Int| []=>[]| d::ds=>J0 P w d::sV P w ds end
mutual noncomputable def Ds:Dt->Nat| .tup ds=>vU ds+1| _=>1 noncomputable def vU:List Dt->Nat| []=>0| d::ds=>Ds d+vU ds end
mutual theorem iE.inj {h:Heap}:∀(d e:Dt) {v:Value},iE h d v->iE h e v->d=e
 | .int i,e,v,hd,he=>by obtain⟨t,rfl⟩:=hd;cases e with| int j=>obtain⟨_,z⟩:=he; cases z; rfl| str _=>obtain⟨_,_,z⟩:=he; cases z| tup _=>obtain⟨_,_,_,_,z,_⟩:=he; cases z| _=>exact he.elim
 | .str x,e,v,hd,he=>by obtain⟨_,t,rfl⟩:=hd;cases e with| int j=>obtain⟨_,z⟩:=he; cases z| str _=>obtain⟨_,_,z⟩:=he; cases z; rfl| tup _=>obtain⟨_,_,_,_,z,_⟩:=he; cases z| _=>exact he.elim
 | .tup ds,e,v,hd,he=>by obtain⟨a,o,items,n,rfl,ho,hc,hdat,hi⟩:=hd;cases e with| int j=>obtain⟨_,z⟩:=he; cases z| str _=>obtain⟨_,_,z⟩:=he; cases z| tup es=> obtain⟨a',o',items',n',z,ho',hc',Pk,hi'⟩:=he;cases z;obtain rfl:o=o':=zAy (ho.symm.trans ho');rw[hdat] at Pk;injection Pk with h1 _;subst h1;rw[gc.inj ds es hi hi']| _=>exact he.elim
 | .bq,_,_,hd,_=>hd.elim| .bl _,_,_,hd,_=>hd.elim| .lst _,_,_,hd,_=>hd.elim theorem gc.inj {h:Heap}:∀(ds es:List Dt) {vs:List Value},gc h ds vs->gc h es vs->ds=es| [],[],_,_,_=>rfl| [],e::es,vs,hd,he=>by obtain⟨_,_,z,_⟩:=he; rw[show vs=[] from hd] at z; cases z| d::ds,[],vs,hd,he=>by obtain⟨_,_,z,_⟩:=hd; rw[show vs=[] from he] at z; cases z| d::ds,e::es,vs,hd,he=>by obtain⟨v,r,rfl,h1,h2⟩:=hd;obtain⟨v',r',z,g1,g2⟩:=he;cases z;rw[iE.inj d e h1 g1,gc.inj ds es h2 g2];end
mutual theorem iE.keep {h h':Heap}(k:∀b o items n,h.get? b=some o->o.cls=.type "tuple"->o.data=.seq items n->h'.get? b=some o):∀(d:Dt) {v:Value},iE h d v->iE h' d v| .int i,v,hd=>hd| .str x,v,hd=>hd| .tup ds,v,hd=>by obtain⟨a,o,items,n,rfl,ho,hc,hdat,hi⟩:=hd;exact⟨a,o,items,n,rfl,k _ _ _ _ ho hc hdat,hc,hdat,gc.keep k ds hi⟩| .bq,_,hd=>hd.elim| .bl _,_,hd=>hd.elim| .lst _,_,hd=>hd.elim theorem gc.keep {h h':Heap}(k:∀b o items n,h.get? b=some o->o.cls=.type "tuple"->o.data=.seq items n->h'.get? b=some o):∀(ds:List Dt) {vs:List Value},gc h ds vs->gc h' ds vs| [],_,hd=>hd| d::ds,vs,hd=>by obtain⟨v,r,rfl,h1,h2⟩:=hd;exact⟨v,r,rfl,iE.keep k d h1,gc.keep k ds h2⟩;end
mutual theorem iE.reads {h:Heap}:∀(d:Dt) {v:Value},iE h d v->∃as,Reads h v d.py as| .int i,v,hd=>by obtain⟨t,rfl⟩:=hd; exact⟨_,.int i t⟩| .str x,v,hd=>by obtain⟨_,t,rfl⟩:=hd; exact⟨_,.str x t⟩| .tup ds,v,hd=>by obtain⟨a,o,items,n,rfl,ho,hc,hdat,hi⟩:=hd;obtain⟨as,ra⟩:=gc.reads ds hi;exact⟨_,.tuple ho hc hdat ra⟩| .bq,_,hd=>hd.elim| .bl _,_,hd=>hd.elim| .lst _,_,hd=>hd.elim theorem gc.reads {h:Heap}:∀(ds:List Dt) {vs:List Value},gc h ds vs->∃as,ReadsAll h vs (Dt.fG ds) as| [],vs,hd=>by rw[show vs=[] from hd]; exact⟨_,.nil⟩| d::ds,vs,hd=>by obtain⟨v,r,rfl,h1,h2⟩:=hd;obtain⟨as,ra⟩:=iE.reads d h1;obtain⟨bs,rb⟩:=gc.reads ds h2;exact⟨_,.cons ra rb⟩;end
mutual noncomputable def jf:Dt->Bool| .int _=>true| .str x=>PyData.strOk x| .tup ds=>gf ds| _=>false noncomputable def gf:List Dt->Bool| []=>true| d::ds=>jf d&&gf ds end
mutual theorem iE.jf {h:Heap}:∀(d:Dt) {v:Value},iE h d v->jf d=true| .int i,v,hd=>rfl| .str x,v,hd=>hd.1| .tup ds,v,hd=>by obtain⟨a,o,items,n,rfl,ho,hc,hdat,hi⟩:=hd;exact gc.jf ds hi| .bq,_,hd=>hd.elim| .bl _,_,hd=>hd.elim| .lst _,_,hd=>hd.elim theorem gc.jf {h:Heap}:∀(ds:List Dt) {vs:List Value},gc h ds vs->gf ds=true| [],vs,hd=>rfl| d::ds,vs,hd=>by obtain⟨v,r,rfl,h1,h2⟩:=hd;show (TB.jf d&&gf ds)=true;rw[iE.jf d h1,gc.jf ds h2];rfl;end
mutual theorem Du:∀d:Dt,jf d=true->d.py.canLay0=true| .int i,_=>rfl| .str x,h=>h| .tup ds,h=>Lm ds h| .bq,h=>nomatch h| .bl _,h=>nomatch h| .lst _,h=>nomatch h theorem Lm:∀ds:List Dt,gf ds=true->canLayAll0 (Dt.fG ds)=true| [],_=>rfl| d::ds,h=>by have h':jf d=true/\gf ds=true:=zB4.mp h;show (d.py.canLay0&&canLayAll0 (Dt.fG ds))=true;rw[Du d h'.1,Lm ds h'.2];rfl;end
mutual theorem Ii:∀d:Dt,jf d=true->d.py.depth=pR d| .int i,_=>rfl| .str x,_=>rfl| .tup ds,h=>by show depthAll (Dt.fG ds)+1=gu ds+1; rw[EI ds h]| .bq,h=>nomatch h| .bl _,h=>nomatch h| .lst _,h=>nomatch h theorem EI:∀ds:List Dt,gf ds=true->depthAll (Dt.fG ds)=gu ds| [],_=>rfl| d::ds,h=>by have h':jf d=true/\gf ds=true:=zB4.mp h;show max d.py.depth (depthAll (Dt.fG ds))=max (pR d) (gu ds);rw[Ii d h'.1,EI ds h'.2];end
mutual theorem Pn:∀d e:Dt,jf d=true->jf e=true->(eqv d.py e.py=true↔d=e)| .int i,.int j,_,_=>by show (i == j)=true↔_; simp| .int i,.str x,_,_=>by show false=true↔_; simp| .int i,.tup ds,_,_=>by show false=true↔_; simp| .str x,.int j,_,_=>by show false=true↔_; simp| .str x,.str y,_,_=>by show (x == y)=true↔_; simp| .str x,.tup ds,_,_=>by show false=true↔_; simp| .tup ds,.int j,_,_=>by show false=true↔_; simp| .tup ds,.str x,_,_=>by show false=true↔_; simp| .tup ds,.tup es,h1,h2=>by show eqvAll (Dt.fG ds) (Dt.fG es)=true↔_;rw[Ln ds es h1 h2];simp| .bq,_,h,_=>nomatch h| .bl _,_,h,_=>nomatch h| .lst _,_,h,_=>nomatch h| _,.bq,_,h=>nomatch h| _,.bl _,_,h=>nomatch h| _,.lst _,_,h=>nomatch h theorem Ln:∀ds es:List Dt,gf ds=true->gf es=true->(eqvAll (Dt.fG ds) (Dt.fG es)=true↔ds=es)| [],[],_,_=>by simp [Dt.fG,eqvAll]| [],e::es,_,_=>by simp [Dt.fG,eqvAll]| d::ds,[],_,_=>by simp [Dt.fG,eqvAll]| d::ds,e::es,h1,h2=>by have Xm:jf d=true/\gf ds=true:=zB4.mp h1;have h2':jf e=true/\gf es=true:=zB4.mp h2;show (eqv d.py e.py&&eqvAll (Dt.fG ds) (Dt.fG es))=true↔_;rw[zAp,Pn d e Xm.1 h2'.1,Ln ds es Xm.2 h2'.2];simp;end
section
variable {prog:zAA}{w:zAE}{E:zzE}
mutual theorem Lp:∀(d:Dt) (v:Value) (A:zAI) (s:VV) (Q:Int->VV->Prop),iE s.heap d v->A.units+pR d < zAN->Q (J0 prog w d) { s with toks:=s.toks+Ds d }->zAC (zAD prog w) A (pyHash v) Q E s| .int i,v,A,s,Q,hd,hu,q=>by obtain⟨t,rfl⟩:=hd;exact (zAQ prog w).pyHash (k:=i) (by show (i == i)=true; simp) q| .str x,v,A,s,Q,hd,hu,q=>by obtain⟨_,t,rfl⟩:=hd;exact (strKind prog w).pyHash (k:=x) (by show (x == x)=true; simp) q| .tup ds,v,A,s,Q,hd,hu,q=>by obtain⟨a,o,items,n,rfl,ho,hc,hdat,hi⟩:=hd;have Z3:A.units+(gu ds+1) < zAN:=hu;refine PySem.W.pyHash_slot (T:="tuple") ⟨_,ho,hc⟩ F.slot_tuple_hash F.entry_tuple_hash (F.args_tuple_hash_1 _) (beq_builtin_none _) (.inr (by lia)) ?_;show zAC _ _ (Builtin.Tuple.tupleItemsOf (.ref a) >>= _) _ _ s;refine yA (wpAny_tupleItemsOf ho hdat ?_);refine yA ?_;rw[<-Array.forIn_toList];refine Ij ds _ A.in1 s #[] _ hi (by rw[Around.in1_units]; lia) ?_;intro b hb;show zAC _ _ (retInt (Builtin.Tuple.tupleHashOf b.toList)) _ _ _;rw[hb];refine yA (wpAny_mkInt (y4 ⟨_,_,rfl,?_⟩));exact q| .bq,_,_,_,_,hd,_,_=>hd.elim| .bl _,_,_,_,_,hd,_,_=>hd.elim| .lst _,_,_,_,_,hd,_,_=>hd.elim theorem Ij:∀(ds:List Dt) (vs:List Value) (A:zAI) (s:VV) (b:Array Int) (Q:Array Int->VV->Prop),gc s.heap ds vs->A.units+gu ds < zAN->(∀b',b'.toList=b.toList++sV prog w ds->Q b' { s with toks:=s.toks+vU ds })-> zAC (zAD prog w) A (forIn vs b λx r=>do let h <-pyHash x; pure PUnit.unit; pure (ForInStep.yield (r.push h))) Q E s| [],vs,A,s,b,Q,hd,hu,q=>by rw[show vs=[] from hd];exact y4 (q b (by simp [sV]))| d::ds,vs,A,s,b,Q,hd,hu,q=>by obtain⟨v,r,rfl,h1,h2⟩:=hd;have Z3:A.units+max (pR d) (gu ds) < zAN:=hu;rw[List.forIn_cons];refine yA (yA (Lp d _ A s _ h1 (by lia) ?_));refine yA (y4 (y4 ?_));refine Ij ds _ A _ _ Q h2 (by lia) λb' hb=>?_;have:=q b' (by simp [hb,sV]);rw[show s.toks+vU (d::ds)=s.toks+Ds d+vU ds by rw[add_assoc]; rfl] at this;exact this;end
mutual theorem Ik:∀(d:Dt) (k:Nat) (v:Value) (A:zAI) (s:VV) (Q:Bool->VV->Prop),iE s.heap d v->pR d<=k->Q true s->zAC (zAD prog w) A (eqIsQuiet k v) Q E s
 | .int i,k,v,A,s,Q,hd,hk,q=>by obtain⟨t,rfl⟩:=hd;rw[eqIsQuiet_byValue _ (by rfl)];exact y4 q| .str x,k,v,A,s,Q,hd,hk,q=>by obtain⟨_,t,rfl⟩:=hd;rw[eqIsQuiet_byValue _ (by rfl)];exact y4 q| .tup ds,k,v,A,s,Q,hd,hk,q=>by
  have hk0:gu ds+1<=k:=hk;obtain⟨k,rfl⟩:∃k',k=k'+1:=⟨k - 1,by lia⟩;obtain⟨a,o,items,n,rfl,ho,hc,hdat,hi⟩:=hd;have hT:s.TypeIs (.ref a) "tuple":=⟨o,ho,hc⟩;have hk':gu ds<=k:=Nat.le_of_succ_le_succ hk;unfold eqIsQuiet;refine yA (zCJ hT F.slot_tuple_eq.lookup ?_);show zAC _ _ (isInstance (.ref a) (.type "tuple") >>= _) _ _ s;refine yA (zCC hT isSubtype_tuple_tuple ?_);simp only [Bool.not_true,zBa,zC2];refine yA (zB0 ho hdat ?_);refine yA ?_;show zAC _ _ (forIn items _ _) _ _ s;rw[<-Array.forIn_toList];refine zBJ _ (λrest r s'=>r.1=none/\s'=s/\∃es,gc s.heap es rest/\gu es<=k/\∀e∈es,e∈ds) _ ?_ ?_ _ _ ⟨rfl,rfl,ds,hi,hk',λe he=>he⟩
  ·rintro v rest r s' ⟨hr,rfl,es,hes,hke,hsub⟩;cases es with| nil=>cases (show v::rest=[] from hes)| cons e es=> obtain⟨v',r',z,h1,h2⟩:=hes;cases z;have acP:max (pR e) (gu es)<=k:=hke;refine yA (EJ ds e (hsub e zAc) k _ _ _ _ h1 (by lia) ?_);simp only [Bool.not_true,zBa,zC2];exact y4 ⟨rfl,rfl,es,h2,by lia,λe' he'=>hsub e' (zB1 _ he')⟩
  ·rintro⟨r1,r2⟩ s' ⟨hr,rfl,_⟩;simp only at hr;subst hr;exact y4 q| .bq,_,_,_,_,_,hd,_,_=>hd.elim| .bl _,_,_,_,_,_,hd,_,_=>hd.elim| .lst _,_,_,_,_,_,hd,_,_=>hd.elim theorem EJ:∀(ds:List Dt) (d:Dt),d∈ds->∀(k:Nat) (v:Value) (A:zAI) (s:VV) (Q:Bool->VV->Prop),iE s.heap d v->pR d<=k->Q true s->zAC (zAD prog w) A (eqIsQuiet k v) Q E s
 | [],d,h=>nomatch h| e::es,d,h=>λk v A s Q hd hk q=>by
  by_cases z:e=d
  ·subst z;exact Ik e k v A s Q hd hk q
  ·exact EJ es d (by rcases u1.mp h with y | y; exact absurd y.symm z; exact y) k v A s Q hd hk q;end
end
noncomputable instance acI:DecidableEq Dt:=λ_ _=>Classical.propDecidable _
noncomputable def Y3 (h:Heap)(d:Dt)(a:M1):Prop:=(∃b,d=.tup b)/\pR d<=8/\iE h d (.ref a)
noncomputable def Dv (prog:zAA) (w:zAE):HeapKind prog w Dt where
 is:=Y3;hash:=J0 prog w;draws:=Ds;room:=λA=>A.units+8 < zAN;inj:=λg i=>iE.inj _ _ g.2.2 i.2.2;keeps:=λ{h K k a d o L J} x u v t=>⟨x.1,x.2.1,iE.keep (λb I j n e c q=>(t.2 b λz=>by subst z;rw[u] at e; cases e;rw[v] at q; cases q).trans e) _ x.2.2⟩;pyHash:=λD f h=>Lp _ _ _ _ _ f.2.2 (by have:=f.2.1; lia) h;eqBool:=λ{A E s x y a b Q} D g i h=>by obtain⟨F,G⟩:=iE.reads x g.2.2;obtain⟨r,B⟩:=iE.reads y i.2.2;have m:=iE.jf x g.2.2;have p:=iE.jf y i.2.2;have C:=Ii x m;have H:=g.2.1;refine SeqAt.eqAt_reads x.py y.py A s _ _ F r G B (Du x m) (Du y p) (by rw[C]; lia) prog w E Q ?_;rw[show eqv x.py y.py=decide (x=y) by rw[zC6,Pn x y m p,decide_eq_true_iff]];exact h
 quiet:=λf h=>Ik _ 8 _ _ _ _ f.2.2 f.2.1 h
end TB
namespace L2
open PySem PySem.Spec PyProof.Rows
section
variable {κ:Type}[DecidableEq κ]
noncomputable def dF (kvs:List (κ × V))(k:κ):Option V:=(kvs.find? λa=>decide (a.1=k)).map (·.2)
noncomputable def putK (kvs:List (κ × V))(k:κ)(v:V):List (κ × V):= if (kvs.any λa=>decide (a.1=k))=true then kvs.map (λa=>if a.1=k then (a.1,v) else a) else kvs++[(k,v)]
theorem fE {k:κ}(e:p.1=k):dF (p::r) k=some p.2:=by simp [dF,zBr,e]
theorem fF {k:κ}(e:¬ p.1=k):dF (p::r) k=dF r k:=by simp [dF,zBr,e]
theorem pS (k:κ):∀kvs:List (κ × V),(kvs.any λa=>decide (a.1=k))=(dF kvs k).isSome
 | []=>rfl| p::r=>by
  rw[List.any_cons];by_cases e:p.1=k;·simp only [fE e,j2 e,Bool.true_or,Option.isSome_some]
  ·rw[fF e,zAx e]; exact pS k r
theorem EK (k j:κ)(y:V):∀kvs:List (κ × V),dF (kvs.map λa=>if a.1=k then (a.1,y) else a) j=(dF kvs j).map λx=>if j=k then y else x
 | []=>rfl| p::r=>by
  have b:=EK k j y r;rw[zAw];by_cases h:p.1=k
  ·rw[v6 h];by_cases e:p.1=j;·rw[fE (p:=(p.1,y)) e,fE e,map_some,v6 (e.symm.trans h)]
   ·rw[fF (p:=(p.1,y)) e,fF e,b]
  ·rw[xI h];by_cases e:p.1=j;·rw[fE e,fE e,map_some,xI (by ext)]
   ·rw[fF e,fF e,b]
theorem Cc (k j:κ)(y:V):∀kvs:List (κ × V),dF kvs k=none->dF (kvs++[(k,y)]) j=if j=k then some y else dF kvs j
 | [],_=>by
  by_cases e:k=j;·rw[v6 e.symm]; exact fE e
  ·rw[xI (by grind)]; exact fF e| p::r,a=>by
  rw[List.cons_append];have b:¬ p.1=k:=λz=>by rw[fE z] at a; ext
  rw[fF b] at a;have c:=Cc k j y r a;by_cases e:p.1=j;·rw[fE e,fE e,xI (by ext)]
  ·rw[fF e,fF e,c]
theorem yN (kvs:List (κ × V))(k j:κ)(y:V):dF (putK kvs k y) j=if j=k then some y else dF kvs j:=by
 unfold putK;by_cases a:(kvs.any λb=>decide (b.1=k))=true
 ·rw[v6 a,EK];rw[pS] at a;by_cases e:j=k
  ·obtain⟨x,c⟩:=zCi.mp a;ext
  ext
 ·rw[xI a];refine Cc k j y kvs ?_;rw[pS] at a;ext
theorem rD (kvs:List (κ × V))(k:κ)(v:V):(putK kvs k v).length<=kvs.length+1:=by
 unfold putK;split;·rw[yB]; simp
 ·rw[zAf,zBw,List.length_nil]; simp
theorem f9.qN (r:f9 o u):o.isSome=u.isSome:=by cases o with
 | none=>cases u with| none=>rfl| some _=>exact (show False from r).elim
 | some _=>cases u with| none=>exact (show False from r).elim| some _=>rfl
theorem f9.getD (r:f9 o u)(a:RelV d d'):RelV (o.getD d) (u.getD d'):=by cases o with
 | none=>cases u with| none=>symm| some _=>exact (show False from r).elim
 | some _=>cases u with| none=>exact (show False from r).elim| some _=>symm
theorem KV.val (r:KV kvs vs)(k:κ):f9 (dF kvs k) (zDd vs k):=by induction r with| nil=>exact True.intro| @cons p q g a h t f=>
  obtain⟨d,i⟩:=h;by_cases e:p.1=k
  ·have c:=d.symm.trans e;have b:zDd (q::a) k=some q.2:=by simp [zDd,zBr,c]
   rw[fE e,b]; symm
  ·have c:¬ q.1=k:=λz=>e (d.trans z);have b:zDd (q::a) k=zDd a k:=by simp [zDd,zBr,c]
   rw[fF e,b]; symm
theorem KV.any (r:KV kvs vs)(k:κ):(kvs.any λa=>decide (a.1=k))=vs.any λa=>decide (a.1=k):=by induction r with| nil=>rfl| cons h t b=>ext
theorem KV.repl (r:KV kvs vs)(k:κ)(c:RelV y u) : KV (kvs.map λa=>if a.1=k then (a.1,y) else a) (vs.map λa=>if a.1=k then (a.1,u) else a):=by induction r with| nil=>exact .nil| @cons p q e d h t b=> refine .cons ?_ b;grind
theorem KV.put (r:KV kvs vs)(k:κ)(a:RelV y u):KV (putK kvs k y) (stored vs k u):=by
 unfold putK stored;rw[r.any k];by_cases e:(vs.any λb=>decide (b.1=k))=true;·rw[v6 e,v6 e]; exact r.repl k a
 ·rw[xI e,xI e]; exact Paired.snoc r ⟨rfl,a⟩
theorem KV.keys {vs:List (κ × Value)}(r:KV kvs vs):kvs.map (·.1)=vs.map (·.1):=by induction r with| nil=>rfl| cons h t a=>ext
theorem KV.length {vs:List (κ × Value)}(r:KV kvs vs):kvs.length=vs.length:=Paired.length r
end
theorem zX (r:RelV (kV k) u):(bR P w).is k u=true:=by cases k with| inl i=>obtain⟨t,e⟩:=(show ∃t,u=Value.int i t from r); subst e; exact xZ P w i t| inr x=>obtain⟨t,e⟩:=(show ∃t,u=Value.str x t from r); subst e; exact GO P w x t
theorem Cd:∀{ks:List Key} {us:List Value},Vals (ks.map kV) us->ItemsAre (bR P w) ks us| [],_,r=>by cases r; exact .nil| k::ks,_,r=>by cases r with| cons h t=>exact .cons (zX h) (Cd t)
abbrev KT (H:Hp):List (List Key × V)->List (List Key × M1 × Value)->Prop:=Paired λp q=>p.1=q.1/\H q.2.1=some (.tup (p.1.map kV))/\RelV p.2 q.2.2
theorem KT.val (r:KT H kvs xs)(k:List Key):f9 (dF kvs k) ((zAS xs k).map (·.2)):=by induction r with| nil=>exact True.intro| @cons p q g a h t f=>
  obtain⟨d,_,i⟩:=h;by_cases e:p.1=k
  ·have c:=d.symm.trans e;have b:zAS (q::a) k=some q.2:=by simp [zAS,zBr,c]
   rw[fE e,b]; symm
  ·have c:¬ q.1=k:=λz=>e (d.trans z);have b:zAS (q::a) k=zAS a k:=by simp [zAS,zBr,c]
   rw[fF e,b]; symm
theorem KT.repl (r:KT H kvs xs)(k:List Key)(d:RelV y u) : KT H (kvs.map λa=>if a.1=k then (a.1,y) else a) (xs.map (zDR k u)):=by induction r with| nil=>exact .nil| @cons p q e c h t b=> refine .cons ?_ b;unfold zDR;grind
theorem KT.put (r:KT H kvs xs)(k:List Key)(d:H b=some (.tup (k.map kV)))(a:RelV y u) : KT H (putK kvs k y) (zBD xs k b u):=by
 have e:(kvs.any λc=>decide (c.1=k))=(zAS xs k).isSome:=by rw[pS,(r.val k).qN,Option.isSome_map]
 unfold putK zBD;rw[e];by_cases q:(zAS xs k).isSome=true;·rw[v6 q,v6 q]; exact r.repl k a
 ·rw[xI q,xI q]; exact Paired.snoc r (by ext)
theorem KT.keeps (r:KT H kvs xs)(a:∀b ys,H b=some (.tup ys)->H' b=some (.tup ys)):KT H' kvs xs:= Paired.M_ r (by ext)
section
variable {P:zAA}{w:zAE}{H:Hp}{h:Heap}{a:M1}
theorem Po (b:fW P w H h)(e:Rd H a u):bI P w H h a u:=e.ok b
theorem xC (b:fW P w H h)(e:Rd H a (.dK kvs)):kvs.length<=PK/\(a == zAO)=false/\∃vs,KV kvs vs/\h.DictOf (bR P w) a vs:= show bI P w H h a _ from Po b e
theorem Dw (b:fW P w H h)(e:H a=some (.dK kvs)):kvs.length<=PK/\(a == zAO)=false/\∃vs,KV kvs vs/\h.DictOf (bR P w) a vs:=xC b (.inl e)
theorem vV (c:fW P w H h)(e:H a=some (.tup (ks.map kV))):(zAT (bR P w)).is h ks a:=by obtain⟨_,b,r,o,f,g,n,d⟩:=(show bI P w H h a _ from c a _ e);exact⟨o,b.toArray,n,f,g,d,by simpa using Cd r⟩
theorem xD (d:fW P w H h)(e:Rd H a (.dT kvs)):kvs.length<=PK/\(a == zAO)=false/\ ∃xs,KT H kvs xs/\h.DictOfH (zAT (bR P w)) a xs:=by
 obtain⟨z,y,xs,r,o,s,n,k,j,i,u,f⟩:=(show bI P w H h a _ from Po d e);refine⟨z,y,xs,r,o,s,n,k,j,i,u,λx b=>?_,f⟩;have c:∀{l:List _} {m:List _},KT H l m->∀x∈m,(zAT (bR P w)).is h x.1 x.2.1:=by intro l m q;induction q with| nil=>intro x b; exact nomatch b| @cons p q A B v t g=>
   intro x b;rcases u1.mp b with e | b;·exact vV d (by ext)
   ·exact g x b
 exact c r x b
theorem WM (b:fW P w H h)(e:H a=some (.dT kvs)):kvs.length<=PK/\(a == zAO)=false/\ ∃xs,KT H kvs xs/\h.DictOfH (zAT (bR P w)) a xs:=xD b (.inl e)
end
noncomputable def nu (H:Hp)(a:M1)(y:V)(r:Option V):Prop:=(∃c k,Rd H a (.dK c)/\y=kV k/\r=dF c k)\/∃c k b,Rd H a (.dT c)/\y=.ref b/\H b=some (.tup (k.map kV))/\r=dF c k
noncomputable def Bb (H:Hp)(a:M1)(y v:V)(H':Hp):Prop:=(∃c k,H a=some (.dK c)/\y=kV k/\c.length < PK/\H'=upd H a (.dK (putK c k v)))\/ ∃c k b,H a=some (.dT c)/\y=.ref b/\H b=some (.tup (k.map kV))/\c.length < PK/\H'=upd H a (.dT (putK c k v))
theorem nu.k {H:Hp}{a:M1}{kvs:List (Key × V)}{k:Key}(e:H a=some (.dK kvs)):nu H a (kV k) (dF kvs k):=.inl ⟨kvs,k,.inl e,rfl,rfl⟩
theorem Bb.k {H:Hp}{a:M1}{kvs:List (Key × V)}{k:Key}{v:V}(e:H a=some (.dK kvs))(b:kvs.length < PK):Bb H a (kV k) v (upd H a (.dK (putK kvs k v))):=.inl ⟨kvs,k,e,rfl,b,rfl⟩
section
variable {X:Cx}{pins:zzC}{σ:St}{H:Hp}{s:VV}{a:M1}{y v:V}{u r:Value}{o:Option V}{A:zAI}{E:zzE}
theorem Inv.big (I:Inv X pins σ H s):zAO < s.heap.objs.size:=by have h:=(I.mod.glob.keeps I.bk).lt;exact Nat.lt_trans (by decide) h
theorem Lq (C:A.units+1 < zAN)(I:Inv X pins σ H s)(g:nu H a y (some v))(t:RelV y u)(h:∀f s',Inv X pins σ H s'->RelV v f->Q f s') : zAC (zAD X.prog X.w) A (zCO (.ref a) u) Q E s:=by
 rcases g with ⟨i,k,e,q,l⟩ | ⟨i,k,b,e,q,w,l⟩
 ·subst q;obtain⟨z,x,F,c,m⟩:=xC I.hok e;obtain⟨f,n,d⟩:=f9.some_of (by rw[l]; exact c.val k);exact wpAny_getItem_of (zX t) m.mapOf n (h f _ (I.tok _) d)
 ·subst q;cases (show u=Value.ref b from t);obtain⟨z,x,D,c,m⟩:=xD I.hok e;obtain⟨f,n,d⟩:=f9.some_of (by rw[l]; exact c.val k);obtain⟨p,B,j⟩:=wT.mp n;refine wpAny_getItem_heap (zBE C) (vV I.hok w) m B ?_;rw[j];exact h f _ (I.tok _) d
theorem Ro {Q:zzE}(p:A.units+1 < zAN)(I:Inv X pins σ H s)(g:nu H a y o)(m:RelV y u)(h:∀s',Inv X pins σ H s'->Q (.bool (!o.isSome)) s') : zAC (zAD X.prog X.w) A (zAK .NotIn u (.ref a)) Q E s:=by
 rcases g with ⟨i,k,e,j,l⟩ | ⟨i,k,b,e,j,n,l⟩
 ·subst j;obtain⟨z,d,w,c,f⟩:=xC I.hok e;refine wpAny_notIn_of (zX m) d f.mapOf ?_;rw[<-(c.val k).qN,<-l];exact h _ (I.tok _)
 ·subst j;cases (show u=Value.ref b from m);obtain⟨z,d,t,c,f⟩:=xD I.hok e;refine wpAny_notIn_heap (zBE p) (vV I.hok n) d f ?_;have q:=(c.val k).qN;rw[Option.isSome_map] at q;rw[<-q,<-l];exact h _ (I.tok _)
theorem xE (I:Inv X pins σ H s)(h:eX (H a))(f:Heap.SameBut a s.heap h')(g:∃q,h'.get? a=some q)(d:bI X.prog X.w (upd H a c) h' a c) : Inv X pins σ (upd H a c) { s with heap:=h',toks:=t' }:= I.write h (.inl rfl) (λb q e z=>(f.2 b e).trans z) g d
theorem Lr (z:kvs.length<=PK)(c:(a == zAO)=false)(b:KV kvs vs)(dd:h'.DictOf (bR P w) a vs) : bI P w H' h' a (.dK kvs):=⟨z,c,vs,b,dd⟩
theorem Ls {H':Hp}{Q:Unit->VV->Prop}(S:A.units+1 < zAN)(I:Inv X pins σ H s)(g:Bb H a y v H')(B:RelV y u)(C:RelV v r)(h:∀s',Inv X pins σ H' s'->Q () s') : zAC (zAD X.prog X.w) A (setItem (.ref a) u r) Q E s:=by
 rcases g with ⟨d,k,e,n,l,m⟩ | ⟨d,k,b,e,n,F,l,m⟩
 ·subst n m;obtain⟨z,p,P,f,w⟩:=Dw I.hok e;have K:P.length<=PK:=by rw[<-f.length]; symm
  have x:(putK d k v).length<=PK:=by have:=rD d k v; lia
  refine wpAny_setItem_pairs (zX B) w λD i t=>h _ ?_;have T:∃q,D.get? a=some q:=let ⟨q,_,_,j,_⟩:=i; ⟨q,j⟩;exact xE I (by rw[e]; exact True.intro) t T (Lr x p (f.put k C) i)
 ·subst n m;cases (show u=Value.ref b from B);obtain⟨z,p,N,f,w⟩:=WM I.hok e;have K:N.length<=PK:=by rw[<-Paired.length f]; symm
  have x:(putK d k v).length<=PK:=by have:=rD d k v; lia
  refine wpAny_setItem_heap (zBE S) (vV I.hok F) w λD i t=>h _ ?_;obtain⟨q,G,L,j,R,O,M,_,J⟩:=i;refine xE I (by rw[e]; exact True.intro) t ⟨q,j⟩ ⟨x,p,_,(f.put k F C).keeps λc W U=>?_,q,G,L,j,R,O,M,J⟩;rw[aD (by grind)];symm
end
section
variable {X:Cx}{pins:zzC}{σ:St}{H:Hp}{s:VV}{a:M1}{kvs:List (Key × V)}{k:Key}{u:Value}{A:zAI}{E:zzE}
end
noncomputable def NR (i:zAR):Prop:=∀a b,zDO i false a b=operate [a,b] (zCO a b)
theorem Il {T id:String}(m:zDZ (.type T) "__getitem__"=pure (some (.builtin id))) (l:NR a)(h:zAC (zAD prog w) A (zAM b env) (λo g=>zAC (zAD prog w) A (zAM a env) (λi c=>c.TypeIs o T/\zAC (zAD prog w) A (zCO o i) Q E c) E g) E s) : zAC (zAD prog w) A (zAM (.Subscript b a e) env) Q E s:=by
 refine zDa (zB3 h (λo g n=>zB3 n (λi c d=>?_) λ_ _ x=>x) λ_ _ x=>x);obtain⟨p,d⟩:=d;refine yA ?_;refine yA (zCJ p m ?_);have f:zAC (zAD prog w) A (zDO a false o i) (λr j=>zAC (zAD prog w) A (letTemporaryGo b o r >>= λ_=>pure r) Q E j) E c:=by rw[l o i];exact wpAny_operating (zB3 d (λr j k=>yA (wpAny_letTemporaryGo (y4 k))) λ_ _ x=>x)
 first| exact y4 (yA f)
theorem GS (I:Inv X c σ H s)(g:nu H a y o):s.TypeIs (.ref a) "dict":=by
 rcases g with ⟨d,k,e,_,_⟩ | ⟨d,k,b,e,_,_,_⟩
 ·obtain⟨_,_,i,_,f⟩:=xC I.hok e;exact f.typeIs
 ·obtain⟨_,_,h,_,f⟩:=xD I.hok e;exact f.typeIs
noncomputable def Dy (d e:TE):TE:=fun σ H Q=>d σ H λx c=>e σ c λy b=>∃a v,x=.ref a/\nu b a y (some v)/\Q v b
noncomputable def Bc (d e:TE):TE:=fun σ H Q=>d σ H λy c=>e σ c λx b=>∃a o,x=.ref a/\nu b a y o/\Q (.bl (!o.isSome)) b
noncomputable def Pp (d e c:TE):TS:=λD σ H=>c σ H λv g=>d σ g λx h=>e σ h λy f=>∃a b,x=.ref a/\Bb f a y v b/\D.nx σ b
section
variable {X:Cx}{o i e value:zAR}{pos pos' tpos:Pos}{td ty tv:TE}
theorem Im (D:X.A.units+1 < zAN)(k:PE X o td)(r:PE X i ty)(n:NR i):PE X (.Subscript o i pos) (Dy td ty):=by intro b s σ H Q I h;refine Il PySem.F.slot_dict_getitem.lookup n (aQ (k b s σ H _ I h) λu j ⟨x,l,B,p,m⟩=>aQ (r b j σ l _ B m) λG J w=>?_);obtain⟨y,C,f,t,a,v,z,g,q⟩:=w;subst z;obtain rfl:u=Value.ref a:=p;exact⟨GS f g,Lq D f g t λE F A c=>⟨v,C,A,c,q⟩⟩
theorem Lu (v:X.A.units+1 < zAN)(n:PE X i ty)(q:PE X o td):PC X .NotIn i o (Bc ty td):=by intro b s σ H Q I h;refine aQ (n b s σ H _ I h) λA d ⟨y,r,m,c,j⟩=>aQ (q b d σ r _ m j) λu B z=>?_;obtain⟨x,t,k,p,a,D,f,g,w⟩:=z;subst f;obtain rfl:u=Value.ref a:=p;exact Ro v k g c λC l=>⟨.bl _,t,l,rfl,w⟩
theorem pB (K:X.A.units+1 < zAN)(k:PE X o td)(F:PE X i ty)(j:PE X value tv)(p:zBR value (some (.Subscript o i pos')) pos.line X.env=pure false) : PS X (.Assign [.Subscript o i pos'] value pos) (Pp td ty tv):=by intro b s σ H D I h;refine wpAny_Assign_Subscript (aQ (j b s σ H _ I h) λr L ⟨v,l,B,n,m⟩=>aQ (k b L σ l _ B m) λu J ⟨x,c,f,t,w⟩=>aQ (F b J σ c _ f w) λN P d=>?_) p;obtain⟨y,O,z,A,a,G,C,g,E⟩:=d;subst C;obtain rfl:u=Value.ref a:=t;exact Ls K z g A n λM q=>⟨σ,G,q,E⟩
end
theorem NS (h:Heap)(a:zAO < h.objs.size):bI P w H (h.push { cls:=.type "dict",data:=.dict #[] }) h.objs.size (.dK []):=⟨zAb _,beq_eq_false_iff_ne.mpr (Ne.symm (wE a)),[],.nil,Heap.DictOf.new h⟩
noncomputable def Lv:TE:=λ_ H Q=>∀p,H p=none->Q (.ref p) (upd H p (.dK []))
section
variable {X:Cx}{pos:Pos}
theorem pT:PE X (.Dict [] [] pos) Lv:=λa s σ H Q I h=> wpAny_Dict_empty ⟨.ref s.heap.objs.size,_,I.laid (λ_ _ q=>y1 _ q) (y6 _) (NS s.heap I.big),rfl,h _ (I.hok.fresh (y6 _))⟩
end
structure M2 (X:Cx)(o:zAR)(m:Str)(apos:Pos)(e f:zAR)(cpos:Pos):Prop where
 base:zBA o m X.env (zAM o X.env)=zAM o X.env
 few:((zAW cpos (zAG [e,f] X.env)).all (λx=>!x.1)&&(zBY cpos (zAY [] X.env)).all (λx=>x.1.isSome) &&decide (([e,f]:List zAR).length+([]:List zDV).length+(if ([]:List zDV).isEmpty then 0 else 1) < 30))=true
 line:(apos.endLine == cpos.line)=true
 trees:zAW cpos (zAG [e,f] X.env)=[(false,zAM e X.env),(false,zAM f X.env)]
noncomputable def Xn (H:Hp)(a:M1):Prop:=(∃b,Rd H a (.dK b))\/∃b,Rd H a (.dT b)
theorem Uo (I:Inv X g σ H s)(d:Xn H a) : s.TypeIs (.ref a) "dict"/\(∀b,Value.ref a=.ref b->∃c,s.heap.get? b=some c/\c.dict=none)/\(a == zAO)=false:=by
 rcases d with ⟨k,e⟩ | ⟨k,e⟩
 ·obtain⟨_,h,m,_,f⟩:=xC I.hok e;refine⟨f.typeIs,λb q=>?_,h⟩;cases q;obtain⟨c,_,_,i,j,_⟩:=f;exact⟨c,i,j.2.1⟩
 ·obtain⟨_,h,l,_,f⟩:=xD I.hok e;refine⟨f.typeIs,λb q=>?_,h⟩;cases q;obtain⟨c,_,_,i,j,_⟩:=f;exact⟨c,i,j.2.1⟩
section
variable {X:Cx}{pins:zzC}{σ:St}{H:Hp}{s:VV}{a:M1}{y d:V}{u r:Value}{o:Option V}{A:zAI}{E:zzE}
theorem Uq (x:A.units+1 < zAN)(I:Inv X pins σ H s)(g:nu H a y o)(p:RelV y u)(q:RelV d r)(h:∀t s',Inv X pins σ H s'->RelV (o.getD d) t->Q t s') : zAC (zAD X.prog X.w) A (call (.builtin "dict.get") [.ref a,u,r]) Q E s:=by
 rcases g with ⟨m,k,e,j,l⟩ | ⟨m,k,b,e,j,w,l⟩
 ·subst j;obtain⟨z,n,B,f,i⟩:=xC I.hok e;refine zCP zCv i.typeIs PySem.F.entry_dict_get (PySem.F.args_dict_get_3 _ _ _) (meets_dict_get_default _ a (zX p) n r) ⟨_,i.mapOf,h _ _ (I.tok _) ?_⟩;rw[l];exact (f.val k).getD q
 ·subst j;cases (show u=Value.ref b from p);obtain⟨z,n,v,f,i⟩:=xD I.hok e;refine zCP zCv i.typeIs PySem.F.entry_dict_get (PySem.F.args_dict_get_3 _ _ _) (meetsH_dict_get_default _ a b n r) ⟨zBE x,k,v,vV I.hok w,i,h _ _ (I.tok _) ?_⟩;rw[l];exact (f.val k).getD q
end
noncomputable def Lw (f e g:TE):TE:=fun σ H Q=>f σ H λx c=>∃a,x=.ref a/\Xn c a/\e σ c λy d=>g σ d λz b=>∃o,nu b a y o/\Q (o.getD z) b
section
variable {X:Cx}{o e f:zAR}{apos cpos:Pos}{td ty tx:TE}
theorem nv (O:X.A.units+1 < zAN)(N:PE X o td)(M:PE X e ty)(J:PE X f tx)(m:M2 X o "get" apos e f cpos):PE X (.Call (.Attribute o "get" apos) [e,f] [] cpos) (Lw td ty tx):=by intro i s σ H Q I h;refine zCZ m.base m.few m.line zCk zCv PySem.F.type_dict_get (aQ (N i s σ H _ I h) λu l n=>?_);obtain⟨x,p,k,B,a,F,d,q⟩:=n;subst F;obtain rfl:u=Value.ref a:=B;obtain⟨A,r,_⟩:=Uo k d;refine⟨A,r,?_⟩;rw[m.trees];refine zCo rfl (zCz (zCd (aQ (M i l σ p _ k q) λT K ⟨y,P,v,E,C⟩=> zCd (aQ (J i K σ P _ v C) λR V ⟨z,t,G,D,S,g,L⟩=>Calls.spliced_nil ?_))));exact Uq O G g E D λU W w j=>⟨_,t,w,j,L⟩
end
section
variable {X:Cx}{pins:zzC}{σ:St}{H:Hp}{s:VV}{a:M1}{kvs:List (Key × V)}{A:zAI}{E:zzE}
end
section
variable {X:Cx}{pins:zzC}{σ:St}{H:Hp}{s:VV}{a:M1}{y:V}{u:Value}{A:zAI}{E:zzE}
end
section
variable {κ:Type}[DecidableEq κ]
theorem NT {k:κ}(h:dF kvs k=none):¬ k∈kvs.map (·.1):=by intro m;have q:(kvs.any λa=>decide (a.1=k))=true:=List.any_eq_true.mpr (by ext);rw[pS] at q;ext
end
open TB
theorem ny {K:zzA}{H:Hp}{c q:M1}{xs:List V}{o:HO}(b:eX (H c))(h:aG K H q xs):aG K (upd H c o) q xs:=by
 rcases h with (h | ⟨u,h⟩) | h;·exact .inl (.inl (by rw[aD (λz=>by subst z; rw[h] at b; symm)]; symm))
 ·exact .inl (.inr ⟨u,by rw[aD (λz=>by subst z; rw[h] at b; symm)]; symm⟩)
 ·exact .inr h
mutual theorem EL {K:zzA}{H H':Hp}(k:∀q xs,aG K H q xs->aG K H' q xs):∀(d:Dt) {v:V},jf d=true->Rep K H d v->Rep K H' d v| .int i,v,_,h=>by unfold Rep at h ⊢; exact h| .str x,v,_,h=>by unfold Rep at h ⊢; exact h| .tup ds,v,n,h=>by unfold Rep at h ⊢;obtain⟨a,xs,rfl,q,r⟩:=h;exact⟨a,xs,rfl,k _ _ q,zY k ds n r⟩| .bq,_,n,_=>nomatch n| .bl _,_,n,_=>nomatch n| .lst _,_,n,_=>nomatch n theorem zY {K:zzA}{H H':Hp}(k:∀q xs,aG K H q xs->aG K H' q xs):∀(ds:List Dt) {vs:List V},gf ds=true->aJ K H ds vs->aJ K H' ds vs| [],vs,_,h=>by unfold aJ at h ⊢; exact h| d::ds,vs,n,h=>by have n':jf d=true/\gf ds=true:=zB4.mp n;unfold aJ at h ⊢;obtain⟨v,r,rfl,h1,h2⟩:=h;exact⟨v,r,rfl,EL k d n'.1 h1,zY k ds n'.2 h2⟩;end
section
variable {X:Cx}{pins:zzC}{σ:St}{H:Hp}{s:VV}
mutual theorem Lx (I:Inv X pins σ H s):∀(d:Dt) {x:V} {u:Value},jf d=true->Rep X.K H d x->RelV x u->iE s.heap d u| .int i,x,u,_,h,r=>by unfold Rep at h; subst h; exact r| .str z,x,u,n,h,r=>by unfold Rep at h; subst h; exact⟨n,r⟩| .tup ds,x,u,n,h,r=>by unfold Rep at h;obtain⟨a,xs,rfl,q,rr⟩:=h;cases r;obtain⟨its,r1,⟨o,ho,hc,n',hd⟩,_⟩:=I.tuple q;exact⟨a,o,its.toArray,n',rfl,ho,hc,hd,by simpa using Io I ds n rr r1⟩| .bq,_,_,n,_,_=>nomatch n| .bl _,_,_,n,_,_=>nomatch n| .lst _,_,_,n,_,_=>nomatch n theorem Io (I:Inv X pins σ H s):∀(ds:List Dt) {xs:List V} {us:List Value},gf ds=true->aJ X.K H ds xs->Vals xs us->gc s.heap ds us| [],xs,us,_,h,r=>by unfold aJ at h; subst h; cases r; rfl| d::ds,xs,us,n,h,r=>by have n':jf d=true/\gf ds=true:=zB4.mp n;unfold aJ at h;obtain⟨x,xr,rfl,q,t⟩:=h;cases r with| cons rx T5=>exact⟨_,_,rfl,Lx I d n'.1 q rx,Io I ds n'.2 t T5⟩;end
end
noncomputable def NK (K:zzA)(H:Hp)(d:Dt)(a:M1):Prop:=(∃c,d=.tup c)/\pR d<=8/\jf d=true/\Rep K H d (.ref a)
theorem NK.of {K:zzA}(h:aG K H a xs)(r:aJ K H b xs)(d:gf b=true)(e:gu b<=7):NK K H (.tup b) a:=⟨⟨b,rfl⟩,Nat.succ_le_succ e,d,by unfold Rep; exact⟨a,xs,rfl,h,r⟩⟩
theorem NK.tups {K:zzA}(h:NK K H d a)(k:∀q xs,aG K H q xs->aG K H' q xs):NK K H' d a:=⟨h.1,h.2.1,h.2.2.1,EL k _ h.2.2.1 h.2.2.2⟩
theorem NK.key (I:Inv X b σ H s)(h:NK X.K H d a):(Dv X.prog X.w).is s.heap d a:=⟨h.1,h.2.1,Lx I d h.2.2.1 h.2.2.2 rfl⟩
noncomputable def EM (P:zAA)(w:zAE)(h:Heap)(S:M1)(b:List (Dt × M1 × Value)):Prop:=(S == zAO)=false/\∃o a c,h.get? S=some o/\o.ExactDict/\o.data=.dict a c/\a.toList=b.map (zDY (Dv P w))/\(b.map (·.1)).Nodup
noncomputable def Dz (P:zAA)(w:zAE)(S:M1)(a:List (Dt × M1 × Value)):HO:=.ext λh=>EM P w h S a
theorem yO (x:EM P w h S d):bI P w H h S (Dz P w S d):=by obtain⟨l,o,n,p,g,r⟩:=id x;refine⟨x,⟨o,g⟩,λj m y k=>?_⟩;obtain⟨e,i,b,a,c,f⟩:=y;exact⟨e,i,b,a,k _ c,f⟩
noncomputable def bE (K:zzA)(P:zAA)(w:zAE)(H:Hp)(a:M1)(m:Dt->Option V)(n:Nat):Prop:= ∃b:List (Dt × M1 × Value),H a=some (Dz P w a b)/\b.length<=n/\(∀x∈b,NK K H x.1 x.2.1)/\∀k,f9 (m k) ((zAS b k).map (·.2))
section
variable {K:zzA}{P:zAA}{w:zAE}{H H':Hp}{a:M1}{m:Dt->Option V}{n:Nat}
theorem bE.mut (h:bE K P w H a m n):eX (H a):=by obtain⟨b,e,_⟩:=h;rw[e];exact True.intro
theorem bE.keep (h:bE K P w H a m n)(e:H' a=H a)(k:∀q xs,aG K H q xs->aG K H' q xs):bE K P w H' a m n:=by obtain⟨f,i,d,b,g⟩:=h;exact⟨f,by ext,d,λx c=>(b x c).tups k,g⟩
theorem bE.same (h:bE K P w H a m n)(s:ah H H'):bE K P w H' a m n:=by refine h.keep ?_ λq c h=>s.tup h;obtain⟨d,b,_⟩:=h;rw[b];exact s _ _ b
theorem bE.le (h:bE K P w H a m n)(c:n<=b):bE K P w H a m b:=by obtain⟨f,i,d,e,g⟩:=h;exact⟨f,i,zAv d c,e,g⟩
end
theorem Bd (d:List (Dt × M1 × Value))(k:Dt)(v:Value)(a:Dt):(zAS (d.map (zDR k v)) a).map (·.2)=if a=k then (zAS d a).map λ_=>v else (zAS d a).map (·.2):=by induction d with| nil=>simp [zAS]| cons x g e=>
  unfold zAS at e ⊢;rw[zAw,zBr,zBr];have f:(zDR k v x).1=x.1:=by unfold zDR; split <;> rfl
  rw[f];by_cases c:x.1=a
  ·rw[j2 c];by_cases b:a=k
   ·rw[v6 b];simp [zDR,c,b]
   ·rw[xI b];have:¬ x.1=k:=λz=>b (by rw[<-c,z]);simp [zDR,this]
  ·rw[zAx c];exact e
theorem Ce (c:List (Dt × M1 × Value))(k:Dt)(b:M1)(v:Value)(a:Dt):(zAS (zBD c k b v) a).map (·.2)=if a=k then some v else (zAS c a).map (·.2):=by
 unfold zBD;split
 ·rename_i h;rw[Bd];split
  ·rename_i e;subst e;obtain⟨p,f⟩:=zCi.mp h;rw[f]; rfl
  ·rfl
 ·rename_i h;have d:zAS c k=none:=by cases e:zAS c k with| none=>rfl| some p=>rw[e] at h; exact absurd rfl h
  unfold zAS at d ⊢;rw[List.find?_append];by_cases e:a=k
  ·subst e;rw[Option.map_eq_none_iff.mp d];simp
  ·rw[xI e];have:¬ k=a:=λz=>e z.symm;simp [this]
noncomputable def vW (K:zzA)(P:zAA)(w:zAE)(H:Hp)(a:M1)(y:V)(r:Option V):Prop:=∃m n d b,bE K P w H a m n/\y=.ref b/\NK K H d b/\r=m d
section
variable {X:Cx}{pins:zzC}{σ:St}{H:Hp}{s:VV}{a:M1}{y v:V}{u r:Value}{o:Option V}{A:zAI}{E:zzE}{m:Dt->Option V}{n:Nat}
theorem lH (I:Inv X pins σ H s)(h:bE X.K X.prog X.w H a m n):(a == zAO)=false/\∃b,s.heap.DictOfH (Dv X.prog X.w) a b/\H a=some (Dz X.prog X.w a b)/\b.length<=n/\(∀x∈b,NK X.K H x.1 x.2.1)/\∀k,f9 (m k) ((zAS b k).map (·.2)):=by refine hold λt c=>?_;obtain⟨b,e,j,d,f⟩:=h;obtain⟨⟨B,o,C,z,l,g,q,w,i⟩,_⟩:=(show bI X.prog X.w H s.heap a _ from I.hok a _ e);refine c ?_;exact⟨B,b,⟨o,C,z,l,g,q,w,λx p=>(d x p).key I,i⟩,e,j,d,f⟩
theorem xF (b:A.units+9 < zAN):(Dv X.prog X.w).room A.in1:=by symm
theorem Ly (z:A.units+9 < zAN)(I:Inv X pins σ H s)(g:vW X.K X.prog X.w H a y (some v))(w:RelV y u)(h:∀c s',Inv X pins σ H s'->RelV v c->Q c s') : zAC (zAD X.prog X.w) A (zCO (.ref a) u) Q E s:=by obtain⟨m,n,d,b,t,rfl,x,e⟩:=g;cases (show u=Value.ref b from w);obtain⟨B,C,q,_,_,_,i⟩:=lH I t;have:=i d;rw[<-e] at this;obtain⟨c,l,j⟩:=f9.some_of this;obtain⟨p,k,f⟩:=wT.mp l;refine wpAny_getItem_heap (xF z) (x.key I) q k ?_;rw[f];exact h c _ (I.tok _) j
theorem EN (b:∀k,f9 (m k) ((zAS c k).map (·.2)))(d:Dt):(zAS c d).isSome=(m d).isSome:=by have q:=(b d).qN;ext
theorem Y4 {Q:zzE}(k:A.units+9 < zAN)(I:Inv X pins σ H s)(g:vW X.K X.prog X.w H a y o)(e:RelV y u)(h:∀s',Inv X pins σ H s'->Q (.bool o.isSome) s') : zAC (zAD X.prog X.w) A (zAK .In u (.ref a)) Q E s:=by obtain⟨m,n,d,b,l,rfl,i,rfl⟩:=g;cases (show u=Value.ref b from e);obtain⟨j,p,f,_,_,_,c⟩:=lH I l;refine wpAny_in_heap (xF k) (i.key I) j f ?_;rw[EN c];exact h _ (I.tok _)
theorem Rp {Q:zzE}(k:A.units+9 < zAN)(I:Inv X pins σ H s)(g:vW X.K X.prog X.w H a y o)(e:RelV y u)(h:∀s',Inv X pins σ H s'->Q (.bool (!o.isSome)) s') : zAC (zAD X.prog X.w) A (zAK .NotIn u (.ref a)) Q E s:=by obtain⟨m,n,d,b,l,rfl,i,rfl⟩:=g;cases (show u=Value.ref b from e);obtain⟨j,p,f,_,_,_,c⟩:=lH I l;refine wpAny_notIn_heap (xF k) (i.key I) j f ?_;rw[EN c];exact h _ (I.tok _)
noncomputable def Ur (K:zzA)(P:zAA)(w:zAE)(H:Hp)(a:M1)(y v:V)(Q:Hp->Prop):Prop:=∃m n d b,bE K P w H a m n/\n < PK/\y=.ref b/\NK K H d b/\ ∀o,bE K P w (upd H a o) a (λk=>if k=d then some v else m k) (n+1)->Q (upd H a o)
theorem Lz {R:Hp->Prop}{Q:Unit->VV->Prop}(W:A.units+9 < zAN)(I:Inv X pins σ H s)(g:Ur X.K X.prog X.w H a y v R)(L:RelV y u)(rv:RelV v r)(h:∀H' s',Inv X pins σ H' s'->R H'->Q () s') : zAC (zAD X.prog X.w) A (setItem (.ref a) u r) Q E s:=by
 obtain⟨m,n,d,b,D,Z,rfl,C,k⟩:=g;cases (show u=Value.ref b from L);have i:=D.mut;obtain⟨K,N,M,eH,hl,f,p⟩:=lH I D;refine wpAny_setItem_heap (xF W) (C.key I) M λU w F=>?_;obtain⟨q,G,S,c,Y,P,T,_,J⟩:=w;have t:EM X.prog X.w U a _:=⟨K,q,G,S,c,Y,P,T,J⟩;refine h _ _ (xE I i F ⟨q,c⟩ (yO t)) (k _ ⟨zBD N d b r,aq,?_,λx j=>?_,λl=>?_⟩)
 ·unfold zBD;grind
 ·unfold zBD at j;split at j
  ·obtain⟨z,O,rfl⟩:=xL.mp j;have:=f z O;unfold zDR;split <;> exact this.tups λq B c=>ny i c
  ·rcases w8.mp j with z | z;·exact (f x z).tups λq B c=>ny i c
   ·rw[wP.mp z];exact C.tups λq B c=>ny i c
 ·rw[Ce];show f9 (if l=d then some v else m l) _;by_cases e:l=d;·rw[v6 e,v6 e]; symm
  ·rw[xI e,xI e]; exact p l
end
noncomputable def J1 (K:zzA)(P:zAA)(w:zAE)(f e:TE):TE:=fun σ H Q=>f σ H λx d=>e σ d λy c=>∃a v,x=.ref a/\vW K P w c a y (some v)/\Q v c
noncomputable def J2 (K:zzA)(P:zAA)(w:zAE)(c:Bool)(f g:TE):TE:=fun σ H Q=>f σ H λy e=>g σ e λx d=>∃a o,x=.ref a/\vW K P w d a y o/\Q (.bl (c ^^ o.isSome)) d
noncomputable def DA (K:zzA)(P:zAA)(w:zAE)(d e c:TE):TS:=λD σ H=>c σ H λv i=>d σ i λx h=>e σ h λy f=>∃a,x=.ref a/\Ur K P w f a y v λg=>D.nx σ g
noncomputable def DB (K:zzA)(P:zAA)(w:zAE):TE:=λ_ H Q=>∀p o,H p=none->bE K P w (upd H p o) p (λ_=>none) 0->Q (.ref p) (upd H p o)
section
variable {X:Cx}{o i e value:zAR}{pos pos' tpos:Pos}{td ty tv:TE}(K:zzA)(P:zAA)(w:zAE)
theorem EO {o:Option V}(I:Inv X c σ H s)(g:vW X.K X.prog X.w H a y o):s.TypeIs (.ref a) "dict":=by obtain⟨m,n,d,b,h,_⟩:=g;obtain⟨k,j,f,_⟩:=lH I h;exact f.typeIs
theorem xG (E:X.A.units+9 < zAN)(l:PE X o td)(B:PE X i ty)(p:NR i)(q:X.K=K:=by rfl)(F:X.prog=P:=by rfl)(G:X.w=w:=by rfl):PE X (.Subscript o i pos) (J1 K P w td ty):=by subst q; subst F; subst G;intro b s σ H Q I h;refine Il PySem.F.slot_dict_getitem.lookup p (aQ (l b s σ H _ I h) λu k ⟨x,m,z,r,n⟩=>aQ (B b k σ m _ z n) λM L j=>?_);obtain⟨y,f,d,A,a,v,C,g,t⟩:=j;subst C;obtain rfl:u=Value.ref a:=r;exact⟨EO d g,Ly E d g A λN J D c=>⟨v,f,D,c,t⟩⟩
theorem Y5 (B:X.A.units+9 < zAN)(D:PE X i ty)(k:PE X o td)(n:X.K=K:=by rfl)(r:X.prog=P:=by rfl)(q:X.w=w:=by rfl):PC X .In i o (J2 K P w false ty td):=by subst n; subst r; subst q;intro b s σ H Q I h;refine aQ (D b s σ H _ I h) λG E ⟨y,l,v,f,m⟩=>aQ (k b E σ l _ v m) λu J z=>?_;obtain⟨x,d,j,p,a,t,A,g,c⟩:=z;subst A;obtain rfl:u=Value.ref a:=p;rw[false_xor] at c;exact Y4 B j g f λF C=>⟨.bl t.isSome,d,C,rfl,c⟩
theorem pC (B:X.A.units+9 < zAN)(C:PE X i ty)(k:PE X o td)(n:X.K=K:=by rfl)(t:X.prog=P:=by rfl)(q:X.w=w:=by rfl):PC X .NotIn i o (J2 K P w true ty td):=by subst n; subst t; subst q;intro b s σ H Q I h;refine aQ (C b s σ H _ I h) λG D ⟨y,l,r,f,m⟩=>aQ (k b D σ l _ r m) λu F v=>?_;obtain⟨x,d,j,p,a,E,z,g,c⟩:=v;subst z;obtain rfl:u=Value.ref a:=p;rw[Bool.true_xor] at c;exact Rp B j g f λJ A=>⟨.bl _,d,A,rfl,c⟩
theorem ur (O:X.A.units+9 < zAN)(l:PE X o td)(C:PE X i ty)(k:PE X value tv)(q:zBR value (some (.Subscript o i pos')) pos.line X.env=pure false)(z:X.K=K:=by rfl)(E:X.prog=P:=by rfl)(Q:X.w=w:=by rfl) : PS X (.Assign [.Subscript o i pos'] value pos) (DA K P w td ty tv):=by subst z; subst E; subst Q;intro b s σ H D I h;refine wpAny_Assign_Subscript (aQ (k b s σ H _ I h) λr d ⟨v,m,L,rv,n⟩=>aQ (l b d σ m _ L n) λu N ⟨x,c,j,A,B⟩=>aQ (C b N σ c _ j B) λR U F=>?_) q;obtain⟨y,T,J,f,a,G,g⟩:=F;subst G;obtain rfl:u=Value.ref a:=A;exact Lz O J g f rv λt S p M=>⟨σ,t,p,M⟩
theorem qO (f:X.K=K:=by rfl)(g:X.prog=P:=by rfl)(d:X.w=w:=by rfl):PE X (.Dict [] [] pos) (DB K P w):=by intro b s σ H Q I h;have a:EM X.prog X.w (s.heap.push { cls:=.type _,data:=.dict _ }) s.heap.objs.size []:=⟨beq_eq_false_iff_ne.mpr (Ne.symm (wE I.big)),_,#[],0,u3 _ rfl,⟨rfl,rfl,rfl⟩,rfl,rfl,nodup_nil⟩;exact wpAny_Dict_empty ⟨.ref s.heap.objs.size,_,I.laid (λ_ _ q=>y1 _ q) (y6 _) (yO a),rfl,h _ _ (I.hok.fresh (y6 _)) ⟨[],aq,y6 _,λx c=>absurd c (by simp),λk=>True.intro⟩⟩
end
end L2
namespace TB
open PySem PySem.Spec PySem.W PyProof.Rows
section
variable {prog:zAA}{w:zAE}{A:zAI}{E:zzE}{s:VV}
set_option maxHeartbeats 1000000 in theorem Cf {r:Value}{C:Heap->zzD->Prop}{Q:zzE}(S:A.handled=none)(col:∀(D:zAI) (G:zzE) (R:List Value->VV->Prop),D.handled=none->(∀(a:Heap) (t:Nat) (d:zzD),(∀b o,s.heap.get? b=some o->a.get? b=some o)->C a d->R (d.map rf) { s with heap:=a,toks:=t })->zAC (zAD prog w) D (collect r) R G s)(J:∀a d,C a d->(∀p∈d,zAH (zAQ prog w) a p.2 p.1)/\(∀p∈d,p.2≠[])/\(d.map (·.2)).Nodup/\d.length < 64)(h:∀(a:Heap) (d:zzD) (h':Heap) (t:Nat) (l:M1) (f:zzD) (c:Nat),C a d->(∀b o,s.heap.get? b=some o->a.get? b=some o)->(∀b o,a.get? b=some o->h'.get? b=some o)->a.get? l=none->h'.get? l=some (zAP "list" (f.map rf).toArray c)->f.Perm d->f.Pairwise (λp q=>HT.lexLt p.2 q.2=true)->Q (.ref l) { s with heap:=h',toks:=t }) : zAC (zAD prog w) A (call (.builtin "sorted") [r]) Q E s:=by
 refine Calls.call_function_entry kind_sorted plain_sorted entry_sorted rfl ?_;refine yA (y4 ?_);refine yA (col _ _ _ ‹_› λa t d k F=>?_);obtain⟨n,x,I,B⟩:=J a d F;refine yA (zDC ?_ (by rw[yB,u4]; lia));have y:(a.push _).get? a.objs.size=some (zAP "list" (d.map rf).toArray 0):=u3 _ rfl;have i:∀b o,a.get? b=some o->(a.push (zAP "list" (d.map rf).toArray 0)).get? b=some o:=λb o e=>y1 _ e;have j:a.get? a.objs.size=none:=by cases e:a.get? a.objs.size with| none=>rfl| some O=>exact absurd (vT e) (zBl _)
 have m:∀p∈d,zAH _ (a.push (zAP "list" (d.map rf).toArray 0)) p.2 p.1:=λp M=>iT (n p M) (i (Prod.fst p));generalize a.push _=P at *;generalize a.objs.size=l at y j ⊢;refine yA (zBg (zBh slot_list_sort ⟨_,y,rfl⟩ entry_list_sort ?_ (zDP _)));refine uV y m x I B λL f c N v K H=>?_;refine⟨_,rfl,y4 ⟨_,rfl,h a d L t l f c F k (λb o e=>N b o (λz=>?_) (i b o e)) j v K H⟩⟩;rw[z,j] at e;cases e
end
end TB
namespace L2
open PySem PySem.Spec PyProof.Rows TB
section
variable {X:Cx}{pins:zzC}{σ:St}{H H':Hp}{s:VV}{h':Heap}
theorem Inv.more (I:Inv X pins σ H s)(k:∀b u,s.heap.get? b=some u->h'.get? b=some u)(a:∀b o,H b=some o->H' b=some o)(d:∀b o,H b=none->H' b=some o->s.heap.get? b=none/\bI X.prog X.w H' h' b o):Inv X pins σ H' { s with heap:=h',toks:=t' }:=by
 have g:∀b u,s.heap.get? b=some u->H b=none->H' b=none:=λb u q n=>by cases e:H' b with| none=>rfl| some o=>have z:=(d b o n e).1; rw[q] at z; cases z
 refine I.un ⟨λb u q _ _ _=>k b u q,λb u q _ _ _=>⟨u.slots,k b u q⟩,λb u q n _=>g b u q n,λb u q _=>⟨u,k b u q⟩,λb f q=>a _ _ q,λb o u q=>a _ _ q,λb h q=>⟨#[],by rw[a _ _ q]; rfl⟩⟩ λb u e=>?_;cases q:H b with| none=>exact (d b u q e).2| some o=> have:=a b o q;rw[this] at e;cases e;exact (I.hok b _ q).stay (λc v _ z=>k c v z) (λc z=>a _ _ z) λc f z=>a _ _ z
theorem Inv.nX (I:Inv X pins σ H s)(e:s.heap.get? a=none):H a=none:=by cases q:H a with| none=>rfl| some o=> obtain⟨b,h⟩:=(I.hok a o q).obj;ext
noncomputable def uu (K:zzA):List V->Hp->VK->Prop:=λd H Q=>∃(L:M1) (a:zzD),d=[.ref L]/\ay K H L (a.map rv)/\(∀p∈a,aG K H p.1 (p.2.map V.int))/\(∀p∈a,p.2≠[])/\(a.map (·.2)).Nodup/\a.length < 64/\ ∀(l:M1) (b:zzD),H l=none->b.Perm a->b.Pairwise (λp q=>HT.lexLt p.2 q.2=true)->Q (.ref l) (upd H l (.lst (b.map rv)))
theorem ER (F:X.calm=true):b_ X (.builtin "sorted") (uu X.K):=by
 intro pins s σ H xs Y Q I r h;obtain⟨L,i,rfl,S,J,m,D,g,q⟩:=h;obtain⟨u,rfl,M⟩:=vals1 r;cases M;obtain⟨N,P,y,x⟩:=I.list S;rw[qK P] at y;refine TB.Cf (C:=λj t=>t=i/\∀b o,s.heap.get? b=some o->j.get? b=some o) (I.ok.hd F) (λW V R ha k=>?_) ?_ λj t O Z l a c ⟨e,d⟩ _ v E G B K=>?_
 ·refine collect_list y.isList ?_ (by ext);have d:∀b o,s.heap.get? b=some o->((s.heap.push (zAP "list" #[] 0)).update s.heap.objs.size (mapSeq (·++(i.map TB.rf).toArray))).get? b=some o:=λb o e=>by rw[zA6 _ _ (zCq (vT e))];exact y1 _ e
  exact k _ s.toks i d ⟨rfl,d⟩
 ·rintro j t ⟨rfl,d⟩;exact⟨λp U=>TB.iT (I.key (J p U)) (by ext),m,D,g⟩
 ·subst e;have x:(a.map rv).length<=PK:=by rw[yB,B.length_eq,u4]; lia
  have T:∀b o,s.heap.get? b=some o->O.get? b=some o:=λb o e=>v _ _ (d _ _ e);have f:s.heap.get? l=none:=by cases e:s.heap.get? l with| none=>rfl| some o=>ext
  have A:=I.nX f;exact⟨.ref l,_,I.more T (ah.new A _) (λb o n e=>by
   by_cases z:b=l
   ·subst z;rw[aq] at e;cases e;exact⟨f,x,a.map TB.rf,c,qL a,G⟩
   ·rw[aD z,n] at e;cases e),rfl,q _ a A B K⟩
end
open PySem.W
theorem Ip (h:(bR P w).is (.inl k) v=true):∃t,v=.int k t:=by have a:qD (.inl k) v=true:=h;cases v <;> simp [qD,Value.isInt] at a <;> first | ext
theorem vX {α β:Type}{f:α->β}{l:List α}(h:(l.map f).Nodup):l.Nodup:=(zAh.mp h).imp (by grind)
theorem LA {α β:Type}{f:α->β}{l:List α}(a:∀x y,f x=f y->x=y)(h:l.Nodup):(l.map f).Nodup:=zAh.mpr (h.imp λb e=>b (a _ _ e))
section
variable {X:Cx}{pins:zzC}{σ:St}{H H':Hp}{s:VV}{h':Heap}
noncomputable def zZ (v d:M1):HO:=.ext λh=>h.IsItemsView v d
theorem NU (x:h.IsItemsView v d):bI P w H h v (zZ v d):=by obtain⟨o,a,b⟩:=id x;exact⟨x,⟨o,a⟩,λe c y k=>let ⟨o,a,r⟩:=y; ⟨o,k _ a,r⟩⟩
noncomputable def ES:V->List V->Hp->VK->Prop:=λx c H Q=>∃a b,x=.ref a/\c=[]/\H a=some (.dK b)/\∀p,H p=none->Q (.ref p) (upd H p (zZ p a))
theorem ET:B8 X "dict.items" ES:=by intro pins s σ H x n v m Q I l c h;obtain⟨a,k,rfl,rfl,j,q⟩:=h;cases c;obtain rfl:v=Value.ref a:=l;obtain⟨z,f,g,i,d⟩:=Dw I.hok j;refine zCP PySem.F.slot_dict_items d.typeIs PySem.F.entry_dict_items (PySem.F.args_dict_items_1 _) (meets_dict_items _ a f) ⟨⟨g,d⟩,?_⟩;refine⟨.ref s.heap.objs.size,_,I.laid (λ_ _ e=>y1 _ e) (y6 _) (NU ⟨_,u3 _ rfl,rfl,rfl⟩),rfl,q _ (I.hok.fresh (y6 _))⟩
abbrev z0 (a:Int × Int):List Int:=[a.1,a.2]
noncomputable def bW (ks:List (Int × Int)):List (Key × V):=ks.map λa=>(.inl a.1,.int a.2)
noncomputable def uv:List V->Hp->VK->Prop:=λd H Q=>∃(p a:M1) (c:List (Int × Int)),d=[.ref p]/\H p=some (zZ p a)/\H a=some (.dK (bW c))/\c.length < 64/\ ∀(l:M1) (b:zzD) (H':Hp),H l=none->ah H H'->H' l=some (.lst (b.map rv))->(∀q∈b,H q.1=none/\H' q.1=some (.tup (q.2.map V.int)))->(b.map (·.2)).Perm (c.map z0)->b.Pairwise (λp q=>HT.lexLt p.2 q.2=true)->Q (.ref l) H'
noncomputable def yP (H:Hp)(l:M1)(xs:List V)(a:zzD):Hp:=λb=>if b=l then some (.lst xs) else match a.find? λq=>decide (q.1=b) with| some q=>some (.tup (q.2.map V.int))| none=>H b
theorem yQ {a:zzD}(h:(a.find? λq=>decide (q.1=b))=some q):q∈a/\q.1=b:=⟨List.mem_of_find?_eq_some h,by grind⟩
theorem Rq {a:zzD}(b:(a.map (·.1)).Nodup)(h:q∈a):(a.find? λr=>decide (r.1=q.1))=some q:=by cases e:a.find? _ with| none=>grind| some r=> obtain⟨c,f⟩:=yQ e;obtain⟨i,g,rfl⟩:=zA8.mp h;obtain⟨j,d,rfl⟩:=zA8.mp c;have:j=i:=(List.getElem_inj (h₀:=by ext) (h₁:=by ext) b).mp (by ext);ext
theorem Us (r:KV kvs vs){j:Nat}{k:Key}(h:vs[j]?=some (k,x)):∃v,kvs[j]?=some (k,v)/\RelV v x:=by induction r generalizing j with| nil=>simp at h| @cons p q d e a _ b=> cases j with| zero=> simp at h;subst h;exact⟨p.2,by rw[List.getElem?_cons_zero]; exact zAz some (Prod.ext a.1 rfl),a.2⟩| succ j=> simp at h;obtain⟨v,c,rv⟩:=b h;exact⟨v,by simpa using c,rv⟩
theorem EU (hc:X.calm=true):b_ X (.builtin "sorted") uv:=by
 intro pins s σ H xs us Q I r h;obtain⟨p,a,m,rfl,hp,ha,h64,q⟩:=h;obtain⟨u,rfl,ru⟩:=vals1 r;cases ru;obtain⟨hv,_⟩:=(show bI X.prog X.w H s.heap p (zZ p a) from I.hok p _ hp);obtain⟨z,hd,vs,L,dd⟩:=Dw I.hok ha;obtain⟨ep,dat⟩:=dd.dictAt;have hlen:vs.length=m.length:=by rw[<-L.length]; simp [bW]
 have Z4:(m.map (·.1)).Nodup:=by
  have:=dat.nodup;rw[<-L.keys] at this;have e:(bW m).map (·.1)=(m.map (·.1)).map Sum.inl:=by simp [bW,zAa,Function.comp_def]
  rw[e] at this;exact vX this
 refine TB.Cf (C:=λN G=>G.map (·.2)=m.map z0/\(G.map (·.1)).Nodup/\(∀b o,s.heap.get? b=some o->N.get? b=some o)/\∀q∈G,s.heap.get? q.1=none/\∃i,Vals (q.2.map V.int) i/\zDX N q.1 i.toArray) (I.ok.hd hc) (λA' E' R ha' k=>?_) ?_ λN G h2 tk l d c ⟨e,nd,S,F⟩ _ Y O hl T pw=>?_
 ·refine kdx_collect (knd:=bR X.prog X.w) ha' hv dat (by rw[hlen,u4]; lia) λN tk A S hl g=>?_;have eqs:A.map Value.ref=(A.zip (m.map z0)).map TB.rf:=by have:(A.zip (m.map z0)).map (·.1)=A:=List.map_fst_zip (by simp; ext);rw[show (TB.rf:M1 × List Int->Value)=Value.ref ∘ (·.1) from rfl,<-zAa,this]
  rw[eqs];refine k N tk _ S ⟨?_,?_,S,λq w=>?_⟩;·exact List.map_snd_zip (by simp; ext)
  ·have:(A.zip (m.map z0)).map (·.1)=A:=List.map_fst_zip (by simp; ext);rw[this];exact g.rise.imp λh=>wE h
  ·obtain⟨j,hj,rfl⟩:=zA8.mp w;have hj1:j < A.length:=by simp at hj; ext
   have hj2:j < m.length:=by simp at hj; ext
   have e1:(A.zip (m.map z0))[j]=(A[j],z0 m[j]):=by simp
   rw[e1];obtain⟨key,k',x,hk1,hk2,Z5⟩:=g.pairs j A[j] (y8 hj1);obtain⟨v,hv1,hv2⟩:=Us L hk1;have Z:(bW m)[j]?=some (.inl m[j].1,.int m[j].2):=by simp [bW,y8 hj2]
   rw[Z] at hv1;cases hv1;obtain⟨t1,rfl⟩:=Ip hk2;obtain⟨t2,rfl⟩:=(show ∃t,x=Value.int m[j].2 t from hv2);refine⟨?_,[.int m[j].1 t1,.int m[j].2 t2],.cons ⟨t1,rfl⟩ (.cons ⟨t2,rfl⟩ .nil),⟨_,Z5,rfl,0,rfl⟩⟩;have:=g.above A[j] (zCa hj1);cases e:s.heap.get? A[j] with| none=>rfl| some o=>exact absurd (vT e) (Nat.not_lt_of_le (zBk this))
 ·rintro N G ⟨e,nd,S,F⟩;refine⟨λq w=>?_,λq w=>?_,?_,?_⟩
  ·obtain⟨_,i,U,o,W,J,n,E⟩:=F q w;exact⟨o,i.toArray,n,W,J,E,uo U⟩
  ·have:q.2∈G.map (·.2):=xL.mpr ⟨q,w,rfl⟩;rw[e] at this;obtain⟨kv,_,Z⟩:=xL.mp this;rw[<-Z];simp
  ·rw[e];refine LA (λx y K=>?_) (vX Z4);simp [z0] at K;exact Prod.ext K.1 K.2
  ·have:G.length=m.length:=by have:=zAz length e; simpa using this
   ext
 ·have hs0:∀b,N.get? b=none->s.heap.get? b=none:=λb e=>by cases B:s.heap.get? b with| none=>rfl| some o=>rw[S _ _ B] at e; cases e
  have hn:H l=none:=I.nX (hs0 _ O);have D:∀q∈d,s.heap.get? q.1=none/\∃i,Vals (q.2.map V.int) i/\zDX h2 q.1 i.toArray:=λq w=>by obtain⟨w1,i,U,o,W,J,n,E⟩:=F q (T.mem_iff.mp w);exact⟨w1,i,U,o,Y _ _ W,J,n,E⟩
  have Z8:(d.map (·.1)).Nodup:=(T.map _).nodup_iff.mpr nd;have hne:∀q∈d,q.1≠l:=λq w z=>by obtain⟨_,i,U,o,W,_⟩:=F q (T.mem_iff.mp w);rw[z,O] at W;cases W
  have hq2:∀q∈d,q.2.length=2:=λq w=>by have:q.2∈G.map (·.2):=xL.mpr ⟨q,T.mem_iff.mp w,rfl⟩;rw[e] at this;obtain⟨kv,_,Z⟩:=xL.mp this;rw[<-Z]; rfl
  have ext:ah H (yP H l (d.map rv) d):=λb o hb=>by unfold yP;rw[xI (λz=>by rw[z,hn] at hb; cases hb)];cases B:d.find? λq=>decide (q.1=b) with| none=>exact hb| some q=> obtain⟨m1,m2⟩:=yQ B;rw[<-m2,I.nX (D q m1).1] at hb;cases hb
  have M:∀q∈d,yP H l (d.map rv) d q.1=some (.tup (q.2.map V.int)):=λq w=>by unfold yP;rw[xI (hne q w),Rq Z8 w]
  refine⟨.ref l,yP H l (d.map rv) d,I.more (t':=tk) (λb o e=>Y _ _ (S _ _ e)) ext (λb o n B=>?_),rfl,q l d _ hn ext (by unfold yP; rw[v6 rfl]) (λq w=>⟨I.nX (D q w).1,M q w⟩) ?_ pw⟩
  ·unfold yP at B;by_cases zl:b=l
   ·rw[v6 zl] at B;cases B;refine⟨by rw[zl]; exact hs0 _ O,?_,d.map TB.rf,c,qL d,by rw[zl]; exact hl⟩;rw[yB,T.length_eq,u4];have:G.length=m.length:=by have:=zAz length e; simpa using this
    lia
   ·rw[xI zl] at B;cases f:d.find? λq=>decide (q.1=b) with| none=>rw[f,n] at B; cases B| some q=> rw[f] at B;cases B;obtain⟨m1,m2⟩:=yQ f;obtain⟨w1,i,U,it⟩:=D q m1;rw[m2] at w1 it;exact⟨w1,by rw[yB,hq2 q m1,u4]; decide,i,U,it⟩
  ·rw[<-e];exact T.map _
end
section
variable {prog:zAA}{w:zAE}{A:zAI}{E:zzE}{s:VV}
theorem Cg:∀{vs:List Value} {ns:List Int},vs.length=ns.length->(∀(j:Nat) (v:Value),vs[j]?=some v->∃n t,ns[j]?=some n/\v=.int n t)->zBI vs ns| [],[],_,_=>.nil| v::vs,n::ns,a,h=>by obtain⟨b,t,e,rfl⟩:=h 0 v rfl;simp at e;subst e;exact .cons _ _ (Cg (by ext) λj u c=>h (j+1) u ‹_›)| [],_::_,a,_=>by simp at a| _::_,[],a,_=>by simp at a
set_option maxHeartbeats 1000000 in theorem GU {d:M1}{kvs:List (Key × Value)}{ks:List Int}{Q:zzE}(R:A.handled=none)(lo:(d == zAO)=false)(V:s.heap.DictOf (bR prog w) d kvs)(L:kvs.map (·.1)=ks.map Sum.inl)(O:ks.length < 64)(h:∀(h':Heap) (r:Nat) (l:M1) (ns:List Int) (its:List Value) (c:Nat),(∀b o,s.heap.get? b=some o->h'.get? b=some o)->s.heap.get? l=none->h'.get? l=some (zAP "list" its.toArray c)->zBI its ns->ns.Perm ks->ns.Pairwise (·<=·)->Q (.ref l) { s with heap:=h',toks:=r }) : zAC (zAD prog w) A (call (.builtin "sorted") [.ref d]) Q E s:=by
 obtain⟨ep,H⟩:=V.dictAt;have g:kvs.length=ks.length:=by have:=zAz length L; simpa using this
 refine Calls.call_function_entry kind_sorted plain_sorted entry_sorted (args_sorted1 _) ?_;unfold Builtin.«sorted»;refine yA (m:=checkCount "sorted" 1 1 _) (y4 ?_);refine yA (kdu_collect (kdl_dict (knd:=bR prog w) (kvs:=kvs) (ep:=ep) lo) (by simp [R]) H (by rw[g,u4]; lia) λi r a G it=>?_);have X:zBI a.toList ks:=Cg (by rw[zBp,it.1,g]) λj v T=>by
  obtain⟨k,x,P,u⟩:=it.2 j v (by simpa using T);have K:(kvs.map (·.1))[j]?=some k:=by rw[v3,P]; rfl
  rw[L,v3] at K;obtain⟨n,S,U⟩:=wT.mp K;subst U;obtain⟨t,rfl⟩:=Ip u;exact⟨n,t,S,rfl⟩
 have F:a.toList.length=ks.length:=by rw[zBp,it.1,g]
 refine yA (zDC ?_ (by rw[F,u4]; lia));have y:(i.push (zAP "list" a.toList.toArray 0)).get? i.objs.size=some (zAP "list" a.toList.toArray 0):=u3 _ rfl;have f:i.get? i.objs.size=none:=by cases e:i.get? i.objs.size with| none=>rfl| some Y=>exact absurd (vT e) (zBl _)
 have q:∀b o,i.get? b=some o->(i.push (zAP "list" a.toList.toArray 0)).get? b=some o:=λb o e=>y1 _ e;show zAC _ _ _ _ _ { s with heap:=i.push (zAP "list" a.toList.toArray 0),toks:=r };generalize i.push (zAP "list" a.toList.toArray 0)=J at *;generalize i.objs.size=l at y f ⊢;refine yA (zBg (zBh slot_list_sort ⟨_,y,rfl⟩ entry_list_sort (list_sort_tree (s:={ s with heap:=J,toks:=r }) y X (by ext) λout B M W N=>⟨_,rfl,?_⟩) (zDP _)));obtain⟨c,I⟩:∃c,(sortedHeap J l a.toList out).get? l=some (zAP "list" out c):=by have:=sortedHeap_at (out:=out) y;first | exact⟨_,this⟩ | exact this
 refine y4 ⟨_,rfl,h (sortedHeap J l a.toList out) _ l B out.toList c (λb o e=>?_) ?_ I M W N⟩
 ·have u:=q _ _ (G _ _ e);have C:b≠l:=λz=>by rw[z] at e; rw[G _ _ e] at f; cases f
  rw[sortedHeap_old C (vT u)];exact u
 ·cases e:s.heap.get? l with| none=>rfl| some o=>rw[G _ _ e] at f; cases f
end
section
variable {X:Cx}
noncomputable def EV:List V->Hp->VK->Prop:=λe H Q=>∃(a:M1) (b:List (Key × V)) (d:List Int),e=[.ref a]/\H a=some (.dK b)/\b.map (·.1)=d.map Sum.inl/\d.length < 64/\ ∀(l:M1) (c:List Int),H l=none->c.Perm d->c.Pairwise (·<=·)->Q (.ref l) (upd H l (.lst (c.map V.int)))
theorem EW (D:X.calm=true):b_ X (.builtin "sorted") EV:=by
 intro m s σ H J N Q I r h;obtain⟨a,y,L,rfl,w,O,f,q⟩:=h;obtain⟨u,rfl,B⟩:=vals1 r;cases B;obtain⟨z,F,K,g,v⟩:=Dw I.hok w;refine GU (I.ok.hd D) F v (by rw[<-g.keys]; symm) f λM G l p d c E j i x t C=>?_;have k:=I.nX j;have A:(p.map V.int).length<=PK:=by rw[yB,t.length_eq,u4]; lia
 exact⟨.ref l,_,I.more E (ah.new k _) (λb o n e=>by
  by_cases z:b=l
  ·subst z;rw[aq] at e;cases e;exact⟨j,A,d,c,vH x,i⟩
  ·rw[aD z] at e;ext),rfl,q _ p k t C⟩
end
section
variable {X:Cx}(K:zzA)
theorem NV (h:X.K=K:=by rfl)(a:X.calm=true:=by rfl):b_ X (.builtin "sorted") (uu K):=h ▸ ER a
theorem EX (a:X.calm=true:=by rfl):b_ X (.builtin "sorted") uv:=EU a
theorem NW (a:X.calm=true:=by rfl):b_ X (.builtin "sorted") EV:=EW a
end
end L2
namespace TB
open PySem PySem.Spec
theorem SF.J3:zDZ (.type "tuple") "keys"=pure none:=am_miss_of_fast (by rfl)
section
variable {prog:zAA}{w:zAE}{A:zAI}{E:zzE}{s:VV}
theorem Rr {a:M1}{o:Obj}{xs:Array Value}{k:Nat}{Q:Option Value->VV->Prop}(n:s.heap.get? a=some o)(v:o.cls=.type "tuple")(i:o.data=.seq xs k)(x:o.dict=none)(y:A.handled=none)(h:∀h' p,(∀b m,s.heap.get? b=some m->h'.get? b=some m)->Q none { s with heap:=h',toks:=p }) : zAC (zAD prog w) A (getAttr? (.ref a) "keys") Q E s:=by
 obtain⟨c,r,u,t⟩:=o;subst v i x;obtain⟨q,g,d,p,os⟩:=s;have z:∀j,(⟨q,g,d,j,os⟩:VV).TypeIs (.ref a) _:=λ_=>⟨_,n,rfl⟩;have C:=sub_AttributeError;have B:=F.slot_tuple_getattribute.lookup;have K:=F.slot_tuple_getattribute.bind (.ref a);have G:=am_tuple_getattr_none;repeat (any_goals (first | ((with_reducible show zAC _ _ (call _ _ _) _ _ _); refine zBP F.slot_tuple_getattribute (z _) am_entry_tuple_getattribute (F.args_tuple_getattribute_2 _ _) (meets_getattribute_miss_tuple a xs k t _ _ SF.J3 (by rfl) (by decide +kernel)) ⟨n,y,λh' j e f=>?_⟩) | wp_step))
 obtain⟨D,H,I⟩:=f.there;unfold getattributeRaised;repeat (any_goals (first | wp_step))
 all_goals first | exact h _ _ f.keeps
end
end TB
namespace L2
open PySem PySem.Spec PyProof.Rows TB PySem.W
section
variable {prog:zAA}{w:zAE}{A:zAI}{E:zzE}{s:VV}
theorem NX (x:zAH (zAQ prog w) h [k,v] c):∃o n t u,h.get? c=some o/\o.cls=.type "tuple"/\o.data=.seq #[.int k t,.int v u] n:=by obtain⟨o,a,n,f,i,j,d⟩:=x;obtain⟨l⟩:=a;cases d with| cons e m=> cases m with| cons b g=> cases g;obtain⟨t,rfl⟩:=TB.sQ e;obtain⟨u,rfl⟩:=TB.sQ b;exact⟨o,n,t,u,f,i,j⟩
theorem Rt (r:KV kvs vs){k:Key}(rv:RelV v u):KV (kvs++[(k,v)]) (vs++[(k,u)]):=by induction r with| nil=>exact .cons ⟨rfl,rv⟩ .nil| cons h _ a=>exact .cons h a
variable {I:M1}{fp wr:List M1}{n:Nat}{P:Nat->Value->Prop}{St:Nat->Heap->Prop}{R:Result->VV->Prop}
theorem Ut (W:Walks prog w A.in1 I fp wr n P St)(S:M1)(F:S∉fp){xs:List (M1 × Int × Int)}(hn:xs.length=n)(C:∀(i:Nat) (v:Value),P i v->∃p,xs[i]?=some p/\v=.ref p.1)(hw:∀p∈xs,p.1∉wr)(hz:xs.length<=2000) (nd:(xs.map (·.2.1)).Nodup) : ∀(k i:Nat) (s:VV) (vs:List (Key × Value)),n - i=k->i<=n->St i s.heap->s.heap.DictOf (bR prog w) S vs->(∀p∈xs,zAH (zAQ prog w) s.heap [p.2.1,p.2.2] p.1)->KV (bW ((xs.take i).map (·.2))) vs->(∀h' G O,(∀b o,b≠S->b∉wr->s.heap.get? b=some o->h'.get? b=some o)->h'.DictOf (bR prog w) S O->KV (bW (xs.map (·.2))) O->R (.ok (.ret .none)) { s with heap:=h',toks:=G })-> zBK (zAD prog w) A (.builtin "dict.update.loop" ⟨[.ref S,.ref I,zBX i,.none],[]⟩) R s:=by have D:S∉wr:=λh=>F (W.sub _ h);intro k;induction k with
 | zero=>
  intro i s vs hk hi l hS g a Y;obtain rfl:i=n:=by lia
  refine zBq SF.qM ?_;rw[zBj SF.iD _];show zAC _ A.in1 (zBU (.ref I) >>= _) _ _ s;refine yA (W.done s _ _ l λh' G m=>?_);show zAC _ A.in1 (Builtin.Dict.addKeywords S [] >>= λ_=>ret Value.none) _ _ _;refine yA (y4 (y4 (Y h' G vs (λb o _ H e=>m b o H e) ?_ ?_)))
  ·obtain⟨o,Z,ep,ho,r⟩:=hS;exact⟨o,Z,ep,m S o D ho,r⟩
  ·rw[<-hn,zAd] at a;exact a| succ k ih=>
  intro i s vs hk hi l hS g a Y;have N:i < n:=by lia
  refine zBq SF.qM ?_;rw[zBj SF.iD _];show zAC _ A.in1 (zBU (.ref I) >>= _) _ _ s;refine yA (W.item i s _ _ N l λv h' G hP K m=>?_);obtain⟨p,X,rfl⟩:=C i v hP;have hpx:p∈xs:=j1 X;have B:h'.DictOf (bR prog w) S vs:=by obtain⟨o,Z,ep,ho,r⟩:=hS;exact⟨o,Z,ep,m S o D ho,r⟩
  have f:∀q∈xs,zAH (zAQ prog w) h' [q.2.1,q.2.2] q.1:=λq U=>iT (g q U) λo e=>m _ o (hw q U) e;obtain⟨oc,nc,t1,u,L,hcc,hdc⟩:=NX (f p hpx);dsimp only;refine yA (zBg ?_);refine yA (wpAny_tryCatch ?_);unfold Builtin.Dict.pairItems;refine yA (zCp (T:="tuple") ⟨oc,L,hcc⟩ ?_);rw[v6 (by decide)];refine yA (zB0 L hdc (y4 ?_));show zAC _ A.in1 (zBV [Value.int p.2.1 t1,.int p.2.2 u] (dictSet S (.int p.2.1 t1) (.int p.2.2 u))) _ _ _;refine zBg ?_;have htk:xs.take (i+1)=xs.take i++[p]:=by rw[zAm,X]; rfl
  have hvl:vs.length<=2000:=by rw[<-a.length];simp [bW];lia
  refine wpAny_dictSet_pairs (s:={ s with heap:=h',toks:=G }) (knd:=bR prog w) (k:=.inl p.2.1) (xZ _ _ _ _) B (λh2 M sb=>?_) (by rw[u4]; lia);have d:∀b o,b≠S->h'.get? b=some o->h2.get? b=some o:=λb o H e=>(sb.2 b H).trans e;have ne:∀{c:M1} {o:Obj},h'.get? c=some o->o.cls=.type "tuple"->c≠S:=λ{c o} e hc z=>by obtain⟨od,_,_,hod,ex,_⟩:=B;rw[z,hod] at e;cases e;rw[ex.1] at hc;exact absurd hc (by decide)
  have Xb:stored vs (.inl p.2.1) (.int p.2.2 u)=vs++[(.inl p.2.1,.int p.2.2 u)]:=by
   unfold stored;rw[xI];intro t;obtain⟨x,hx,Pq⟩:=List.any_eq_true.mp t;have J:x.1=.inl p.2.1:=by simpa using Pq
   have:x.1∈vs.map (·.1):=xL.mpr ⟨x,hx,rfl⟩;rw[<-a.keys,J] at this;obtain⟨y,hy,zo⟩:=xL.mp this;obtain⟨z,hz1,rfl⟩:=xL.mp hy;obtain⟨q,hq1,rfl⟩:=xL.mp hz1;have e1:q.2.1=p.2.1:=by simpa using zo
   obtain⟨j,hj,rfl⟩:=zA8.mp hq1;have hj':j < i:=by simp at hj; lia
   have hi':=(q0.mp X);obtain⟨hi1,hi2⟩:=hi';have hjx:j < xs.length:=by lia
   have:j=i:=(List.getElem_inj (h₀:=by simpa using hjx) (h₁:=by simpa using hi1) nd).mp (by simp [hi2]; simpa using e1);lia
  rw[Xb] at M;refine y4 ⟨zCw SF.iD _,ih (i+1) _ _ (by grind) N (W.frame _ _ _ K λb H o e=>d b o (λ(h:b=S)=>F (h ▸ H)) e) M (λq U=>?_) ?_ (λh3 tk3 Z9 kp Uj r3=>?_)⟩
  ·obtain⟨o2,i2,n2,e2,c2,r2⟩:=f q U;exact⟨o2,i2,n2,d _ _ (ne e2 c2) e2,c2,r2⟩
  ·rw[htk];have:bW ((xs.take i++[p]).map (·.2))=bW ((xs.take i).map (·.2))++[(.inl p.2.1,.int p.2.2)]:=by simp [bW]
   rw[this];exact Rt a ⟨u,rfl⟩
  ·exact Y h3 tk3 Z9 (λb o h1 Q e=>kp b o h1 Q (d b o h1 (m b o Q e))) Uj r3
theorem GV {l:M1}{m:Obj}{S:Nat}{xs:List (M1 × Int × Int)}{Q:zzE}(hh:A.handled=none)(y:s.heap.get? l=some m)(q:m.cls=.type "tuple")(u:m.data=.seq (xs.map λp=>Value.ref p.1).toArray S)(N:m.dict=none)(t:∀p∈xs,zAH (zAQ prog w) s.heap [p.2.1,p.2.2] p.1) (hz:xs.length<=2000) (nd:(xs.map (·.2.1)).Nodup)(h:∀(h':Heap) (O:Nat) (vs:List (Key × Value)),h'.DictOf (bR prog w) s.heap.objs.size vs->KV (bW (xs.map (·.2))) vs->(∀b o,s.heap.get? b=some o->h'.get? b=some o)->Q (.ref s.heap.objs.size) { s with heap:=h',toks:=O }) : zAC (zAD prog w) A (call (.type "dict") [.ref l]) Q E s:=by
 refine callType_codes (Q₁:=λD Z=>D=.ref s.heap.objs.size/\Z={ s with heap:=s.heap.push { cls:=.type "dict",data:=.dict #[] } }) F.kt_called_dict (F.kt_typeCall_dict_1 _) F.entry_dict_init (kt_code_dict_new _ ⟨rfl,rfl⟩) ?_;rintro D Z ⟨rfl,rfl⟩;have g:(s.heap.push { cls:=.type "dict",data:=.dict #[] }).DictOf (bR prog w) s.heap.objs.size []:=Heap.DictOf.new s.heap;have f:(s.heap.push { cls:=.type "dict",data:=.dict #[] }).get? l=some m:=y1 _ y;have L:l < s.heap.objs.size:=vT y;refine⟨g.typeIs,F.args_dict_init_2 _ _,?_⟩;unfold Builtin.«dict.__init__»;refine yA ?_;unfold Builtin.Dict.selfAndRest;refine yA (zCB g.typeIs ?_);show zAC _ _ (pure (s.heap.objs.size,[Value.ref l])) _ _ _;refine y4 ?_;show zAC _ _ (updateFrom "dict.__init__" s.heap.objs.size (.ref l) [] .none) _ _ _;unfold updateFrom;refine yA (zCp (T:="tuple") ⟨m,f,q⟩ ?_);rw[v6 (by decide)];refine yA (Rr f q u N (by simp [hh]) λd Y J=>?_);simp only [Option.isNone_none,if_true];have H:d.DictOf (bR prog w) s.heap.objs.size []:=by obtain⟨o,K,U,z,r⟩:=g;exact⟨o,K,U,J _ _ z,r⟩
 have x:d.get? l=some m:=J _ _ f;have X:d.IsTuple l (xs.map λp=>Value.ref p.1).toArray:=⟨m,x,q,S,u⟩;have k:∀b o,s.heap.get? b=some o->d.get? b=some o:=λb o e=>J b o (y1 _ e);have B:s.heap.objs.size < d.objs.size:=by obtain⟨o,_,_,z,_⟩:=H;exact vT z
 have C:l < d.objs.size:=vT x;refine yA (zBO (yA (wpAny_pyIter_tuple (s:={ s with heap:=d,toks:=Y }) X ?_)));have j:∀b o,d.get? b=some o->(d.push { cls:=.type "tuple_iterator",data:=.fields #[.ref l,.int 0 0] }).get? b=some o:=λb o e=>y1 _ e;have V:(d.push { cls:=.type "tuple_iterator",data:=.fields #[.ref l,.int 0 0] }).get? d.objs.size=some { cls:=.type "tuple_iterator",data:=.fields #[.ref l,.int 0 0] }:=u3 _ rfl;generalize d.push { cls:=.type "tuple_iterator",data:=.fields #[.ref l,.int 0 0] }=h2 at *;have W:=Walks.tuple (prog:=prog) (w:=w) (A:=A.in1.in1) (by simp [hh]) d.objs.size l (wE C) (xs.map λp=>Value.ref p.1).toArray;refine y4 ⟨zCw SF.iD _,Ut W s.heap.objs.size ?_ (xs:=xs) (by simp) (λi v hv=>?_) (λp G=>?_) hz nd _ 0 _ [] rfl (zAb _) ⟨⟨_,V,rfl,rfl⟩,⟨m,j _ _ x,q,S,u⟩⟩ (by obtain⟨o,K,U,z,r⟩:=H; exact⟨o,K,U,j _ _ z,r⟩) (λp G=>iT (t p G) λo e=>j _ o (k _ o e)) .nil (λh' O vs kp M r=>?_)⟩
 ·simp only [u1,zBx,zA0,not_or];exact⟨wE B,zCq L⟩
 ·simp at hv;obtain⟨a,⟨b,c,G⟩,rfl⟩:=hv;exact⟨(a,b,c),G,rfl⟩
 ·obtain⟨o2,_,_,e2,_⟩:=t p G;simp only [u1,zBx,zA0];exact wE (vT (k _ _ e2))
 ·refine⟨rfl,h h' O vs M r λb o e=>kp b o (wE (vT e)) ?_ (j _ _ (k _ _ e))⟩;simp only [u1,zBx,zA0];exact wE (vT (k _ _ e))
end
section
variable {X:Cx}
noncomputable def FT (H:Hp)(a:M1)(xs:List V):Prop:=∃o:Obj,o.dict=none/\H a=some (.jo o (.tup xs))
theorem FT.sq {K:zzA}(h:FT H a xs):aG K H a xs:=by obtain⟨o,_,h⟩:=h;exact .inl (.inr ⟨o,h⟩)
theorem FT.same (h:FT H a xs)(s:ah H H'):FT H' a xs:=by obtain⟨o,b,h⟩:=h;exact⟨o,b,s _ _ h⟩
noncomputable def Pr (K:zzA):List V->Hp->VK->Prop:=λd H Q=>∃p b,d=[.ref p]/\ay K H p b/\∀l o,H l=none->FT (L2.upd H l o) l b->Q (.ref l) (L2.upd H l o)
theorem GW:b_ X (.type "tuple") (Pr X.K):=by intro g s σ H x w Q I r h;obtain⟨p,n,rfl,i,q⟩:=h;obtain⟨u,rfl,v⟩:=vals1 r;cases v;obtain⟨a,c,j,t⟩:=I.list i;have f:=c.length;refine call_tuple_list j.isList (λk l=>?_) (by ext);have d:=I.kept (t':=s.toks) l;have m:= d.laid (t':=s.toks) (λb o e=>y1 _ e) (y6 _) (show bI X.prog X.w _ _ _ (.jo _ (.tup n)) from ⟨u3 _ rfl,t,a,c,IsTup.new _ _⟩);exact⟨.ref k.objs.size,_,m,rfl,q _ _ (d.hok.fresh (y6 _)) ⟨_,rfl,aq⟩⟩
noncomputable def LB (K:zzA):List V->Hp->VK->Prop:=λc H Q=>∃(l:M1) (a:List (M1 × Int × Int)),c=[.ref l]/\FT H l (a.map λp=>.ref p.1)/\(∀p∈a,aG K H p.1 [.int p.2.1,.int p.2.2])/\a.length<=2000/\(a.map (·.2.1)).Nodup/\ ∀S:M1,H S=none->Q (.ref S) (L2.upd H S (.dK (bW (a.map (·.2)))))
theorem z3:∀{ps:List (M1 × Int × Int)} {us:List Value},Vals (ps.map λp=>V.ref p.1) us->us=ps.map λp=>Value.ref p.1| [],_,.nil=>rfl| p::ps,u::us,.cons r t=>by have e:=r;rw[e,z3 t];rfl
theorem J5 (m:X.calm=true):b_ X (.type "dict") (LB X.K):=by intro g s σ H M G Q I r h;obtain⟨l,K,rfl,w,t,x,y,q⟩:=h;obtain⟨u,rfl,j⟩:=vals1 r;cases j;obtain⟨L,b,B⟩:=w;obtain⟨f,z,k,C,E,a,d,n,e⟩:=(show bI X.prog X.w H s.heap l _ from I.hok l _ B);rw[f] at a;cases a;rw[z3 C] at e;have A:=I.big;refine GV (I.ok.hd m) f d e b (λp i=>I.key (t p i)) x y λF D J o c v=>?_;refine⟨.ref s.heap.objs.size,_,I.laid v (y6 _) (Lr ?_ (by grind) c o),rfl,q _ (I.hok.fresh (y6 _))⟩;rw[u4];simp [bW];lia
end
section
variable {X:Cx}(K:zzA)
theorem Ru (h:X.K=K:=by rfl):b_ X (.type "tuple") (Pr K):=h ▸ GW
theorem LC (h:X.K=K:=by rfl)(a:X.calm=true:=by rfl):b_ X (.type "dict") (LB K):=h ▸ J5 a
end
noncomputable def Uu (n:Nat)(f:Nat->List V):It:=⟨λi _=>i < n,λi H v a=>∃t,v=.ref t/\H t=none/\a=upd H t (.tup (f i)),λi _=>i=n⟩
section
variable {X:Cx}
theorem Inv.moved {ch:List M1}(I:Inv X a σ H s)(j:∀c∈ch,lR X a H c)(f:∀c o,c∉ch->s.heap.get? c=some o->h'.get? c=some o) : Inv X a σ H { s with heap:=h',toks:=t' }:=by
 refine I.step (g':=s.gens) (d':=s.drawn) (t':=t') (ch:=ch) (λc b=>?_) (λc o _ _ b e _=>f c o b e) (λc o _ _ b e _=>⟨o.slots,f c o b e⟩) (λc o b e n=>n) (λc o b e=>⟨o,f c o b e⟩) (λc h e=>e) (λc o h e=>e) (λc h e=>⟨#[],by rw[e]; rfl⟩) (λm u=>?_) (λc h e=>?_) I.bare
 ·obtain⟨B,v,C,x,k,p⟩:=j c b;exact⟨x,v,k,p⟩
 ·obtain⟨o,l,w,z,r⟩:=u;exact⟨o,l,w,f _ o (λq=>(j _ q).2.1 rfl) z,r⟩
 ·refine (I.hok c h e).stay (λd y A q=>f d y (λt=>?_) q) (λd q=>q) λd D q=>q;have g:=(j d t).1;rcases A with i | i;·rw[i,e] at g; cases g
  ·rw[i] at g; cases g
theorem NY {K:zzA}{Pt:Nat->Array Value->Prop}{St:Nat->Heap->Prop}{Mid:Nat->M1->Heap->Prop}{f:Nat->List V}(W:∀A:zAI,A.handled=none->WalksT P w A C fp wr n Pt St Mid) (Pd:∀i h h',St i h->(∀b∈fp,∀o,h.get? b=some o->h'.get? b=some o)->St i h') (O:C∈fp) (j:∀i h,St i h->∀b∈fp,∃o,h.get? b=some o/\∀v,o.data≠.cell v) (hv:∀i g,Pt i g->Vals (f i) g.toList) (hz:∀i,(f i).length<=1000)(self:∀(A:zAI) (i:Nat) (s:VV) (Q:zzE) (E:zzE),St i s.heap->Q (.ref C) s->zAC (zAD P w) A (zDe (.ref C)) Q E s) : Turn P w K (.Tuple D k pos) (Uu n f) fp C St where
 mem:=O;obj:=j;keep:=Pd;item:=by
  intro X hP hw Z a i l s σ H E I G st N;subst hP hw Z;have t:=W X.A (I.ok.hd a);have p:=λc a=>G c (t.sub c a);refine t.item i s _ E N st λT g h1 tk hp hle hT x k1=>⟨_,rfl,t.go _ _ _ i T _ _ E x λh2 S k2=>?_⟩;have R:=t.apart i T h1 x;have U:=λc o a e=>k2 c o a (k1 c o a e);have B:∀c o,s.heap.get? c=some o->c≠T:=λc o e z=>absurd (vT e) (by ext);have u:H T=none:=I.hok.fresh hle;obtain⟨o,Y,hcl,m,M⟩:=hT;have ho2:h2.get? T=some o:=k2 T o R Y;have I2:Inv X l σ (upd H T (.tup (f i))) { s with heap:=h2,toks:=tk }:=by
   refine I.step (g':=s.gens) (d':=s.drawn) (t':=tk) (ch:=wr) (λc a=>?_) (by ext) (λc o _ _ a e _=>⟨o.slots,U c o a e⟩) (λc o a e n=>?_) (by ext) (λc F e=>?_) (λc o F e=>?_) (λc F e=>⟨#[],?_⟩) (λm O=>?_) (λc F e=>?_) I.bare
   ·obtain⟨f0,f1,f2,f3,f4,f5⟩:=p c a;exact⟨f3,f1,f4,f5⟩
   ·rw[aD (B c o e)]; exact n
   ·rw[aD (aS e u)]; exact e
   ·rw[aD (aS e u)]; exact e
   ·rw[aD (aS e u),e]; rfl
   ·obtain⟨o,es,ep,Y,r⟩:=O;exact⟨o,es,ep,U _ o (λq=>(p _ q).2.1 rfl) Y,r⟩
   ·by_cases y:c=T
    ·subst y;rw[aq] at e;cases e;exact⟨zAv (hz i) (by decide),g.toList,hv i g hp,o,ho2,hcl,m,by simpa using M⟩
    ·rw[aD y] at e;refine (I.hok c F e).stay (λd w' M q=>U d w' (λq2=>?_) q) (λd q=>?_) λd ws q=>?_
     ·have J:=(p d q2).1;rcases M with L | L;·rw[L,e] at J; cases J
      ·rw[L] at J; cases J
     ·rw[aD (aS q u)]; exact q
     ·rw[aD (aS q u)]; exact q
  refine⟨.ref T,_,I2,rfl,⟨T,rfl,u,rfl⟩,S,λc a=>?_⟩;obtain⟨oc,hoc,_⟩:=j i _ st c a;rw[aD (B c oc hoc)];exact (G c a).1
 done:=by intro X hP hw Z a i l s σ H E I G st N;subst hP hw Z;have hi:i=n:=N;subst hi;have t:=W X.A (I.ok.hd a);exact t.done s _ E st λh' tk kk=>⟨rfl,I.moved (λc a=>G c (t.sub c a)) λc o a e=>kk c o a e⟩
 self:=self
theorem C6 (a:y.cps.all (· < 128)=true):strIterType y="str_ascii_iterator":=by unfold strIterType;ext
theorem J6 {K:zzA}(e d:M1)(j:e≠d)(y:Str)(p:Tok) : Turn P w K (.Tuple f k g) (Uu y.cps.size λi=>[.int (i:Int),e_ y i]) [e,d] e (λi h=>(∃a,IsEnum h e d i a)/\h.IsStrIter d "str_ascii_iterator" y p i):=by
 refine NY (λA C=>WalksT.enumerateD (Draws.strAscii ‹_› d y p) e j (by ext) (by simp)) (λi h G st H=>?_) (by simp) (λi h st b D=>?_) (λi n z=>?_) (λi=>(by simp)) λA i s Q E st q=>?_
 ·obtain⟨⟨a,l⟩,o,B,r⟩:=st;exact⟨(by grind),o,(by grind),r⟩
 ·obtain⟨⟨a,l⟩,o,B,v,F⟩:=st;grind
 ·obtain⟨t,x,⟨c,u,v,rfl⟩,rfl⟩:=z;refine .cons ⟨t,rfl⟩ (.cons ⟨u,?_⟩ .nil);ext
 ·obtain⟨⟨a,l⟩,_⟩:=st;exact wpAny_pyIter_enum l q
noncomputable def EY (c:TA):TI:=fun σ H R=>c σ H λa b=>∃y,a=[.str y]/\y.cps.all (· < 128)=true/\R (Uu y.cps.size λi=>[.int (i:Int),e_ y i]) b
theorem NZ (w:X.mg "enumerate"=none)(G:PA X [a] r)(C:Gl X "enumerate":=by rfl)(D:zAG [a] X.env=[(false,zAM a X.env)]:=by rfl) : PI X (.Tuple f k j) (.Call (.Name "enumerate" p) [a] [] i) (EY r):=by
 intro l s σ H R I h;refine Call_ (nO I C w boot_enumerate (zBi (rest:=[]) (aQ (G i l s σ H _ I h) λL d ⟨M,A,m,z,E⟩=>?_) (by rw[D]; rfl) rfl));obtain⟨y,e,g,q⟩:=E;subst e;obtain⟨u,rfl,v⟩:=vals1 z;obtain⟨J,rfl⟩:=v;refine call_enumerate_str λK t o B x=>wpAny_pyIter_enum t ?_;rw[C6 g] at o;refine⟨d.heap.objs.size+1,[d.heap.objs.size+1,d.heap.objs.size],_,_,A,rfl,m.kept (t':=d.toks) x,J6 _ _ (Nat.succ_ne_self _) y J,⟨⟨_,t⟩,o⟩,λb F=>?_,q⟩;have n:d.heap.objs.size<=b:=by
  rcases u1.mp F with h | h;·rw[h]; exact zCg _
  ·rw[wP.mp h]; exact y6 _
 exact m.vA n (m.hok.fresh n)
noncomputable def Xo (K:zzA)(a:M1)(n:Nat):It:=⟨λi H=>∃b,ay K H a b/\b.length=n/\i < n,λi H v d=>d=H/\∀b,ay K H a b->b[n - 1 - i]?=some v,λi _=>i=n⟩
theorem N1 {K:zzA}(a j:M1)(n:Nat):Turn P w K W (Xo K a n) [j] j (λi h=>i<=n/\h.IsRevIter j a ((n:Int) - 1 - (i:Int))) where
 mem:=by simp
 obj:=λi h st b G=>by obtain⟨_,o,e,c,d⟩:=st;ext
 keep:=λi h O st k=>⟨st.1,st.2.at (by ext)⟩;item:=by
  intro X Q M L J i l s σ H E I A st v;subst Q M L;refine hold λPu m=>?_;obtain⟨N,R,F,V⟩:=v;obtain⟨S,rv,p,hz⟩:=I.list R;have T:N[n - 1 - i]?=some _:=y8 (by grind);obtain⟨u,hu,ru⟩:=rv.get T;obtain⟨y,q,Y,t,B,C⟩:=A j (by simp);refine m ?_;have z:n - 1 - i=((n - 1 - i:Nat):Int):=by grind
  have f:=st.2;rw[z] at f;refine wpAny_pyNext_rev_item f p.isList (x:=u) (by ext) λO g Z=>?_;have U:=I.turned (t':=s.toks) (λb o G e=>(Z.2 b G).trans e) y q t B C;obtain⟨o,e,c,d⟩:=id g;have e2:((n - 1 - i:Nat):Int) - 1=n - 1 - ((i+1)):=by lia
  rw[e2] at g;exact⟨u,rfl,zz e c d (by decide) ⟨N[n - 1 - i],H,U,ru,⟨rfl,λys hy=>by rw[I.pM hy R]; symm⟩,⟨V,g⟩,(by ext)⟩⟩
 done:=by
  intro X Q M L J i l s σ H E I A st v;have r:=v;subst r;obtain⟨y,q,Y,t,B,C⟩:=A j (by simp);have z:i - 1 - (i:Int)=-1:=by lia
  have f:=st.2;rw[z] at f;exact wpAny_pyNext_rev_end (I.ok.hd J) f λO eb=>⟨rfl,I.turned ‹_› y q t B C⟩
 self:=λ_ _ _ _ _ st h=>wpAny_pyIter_revIter st.2 h
noncomputable def N2 (K:zzA)(e:TA):TI:=fun σ H R=>e σ H λf d=>∃a c,f=[.ref a]/\ay K d a c/\R (Xo K a c.length) d
theorem Uv (K:zzA)(A:X.mg "reversed"=none)(y:PA X [a] r)(x:X.K=K:=by rfl)(B:Gl X "reversed":=by rfl)(G:zAG [a] X.env=[(false,zAM a X.env)]:=by rfl) : PI X C (.Call (.Name "reversed" p) [a] [] g) (N2 K r):=by subst x;intro f s σ H R I h;refine Call_ (nO I B A boot_reversed (zBi (aQ (y g f s σ H _ I h) λL d ⟨J,D,i,w,F⟩=>?_) ‹_› rfl));obtain⟨l,E,e,t,q⟩:=F;subst e;obtain⟨u,rfl,v⟩:=vals1 w;cases v;obtain⟨j,rv,z,N⟩:=i.list t;have n:=rv.length;refine call_reversed_list z.isList ?_;have k:(d.heap.push (revObj l (j.toArray.size - 1))).IsRevIter d.heap.objs.size l _:=⟨_,u3 _ rfl,rfl,rfl⟩;refine wpAny_pyIter_revIter k ?_;exact⟨d.heap.objs.size,[d.heap.objs.size],_,_,D,rfl,i.kept (λb o e=>y1 _ e),N1 l _ E.length,(by ext),λb M=>by
  have e:b=d.heap.objs.size:=by ext
  subst e;exact i.vA (y6 _) (i.hok.fresh (y6 _)),q⟩
end
end L2
namespace PySem
section
variable {prog:zAA}{w:zAE}{K:Type}[DecidableEq K]{knd:HeapKind prog w K}{A:zAI}{E:zzE}{s:VV}
theorem oZ {d a:M1}{xs:List (K × M1 × Value)}{k:K}{v:Value}{Q:zzE}(u:knd.room A)(b:knd.is s.heap k a)(D:s.heap.DictOfH knd d xs)(f:∀p,zAS xs k=some p->Q p.2 { s with toks:=s.toks+knd.draws k })(m:zAS xs k=none->∀h',h'.DictOfH knd d (zBD xs k a v)->Heap.SameBut d s.heap h'->Q v { s with heap:=h',toks:=s.toks+knd.draws k })(C:xs.length<=PK) : zAC (zAD prog w) A (zDS d (.ref a) v) Q E s:=by
 obtain⟨o,G,B,i,F,h,q,n,r⟩:=D;unfold zDS;try with_reducible refine zBg ?_
 refine yA (knd.pyHash u b ?_);refine yA (wpAny_dictFind_heap (s:={ s with toks:=s.toks+knd.draws k }) u b i h q n r ?_ ?_)
 ·intro c;have l:k∉xs.map (·.1):=not_mem_keys_of_get c;refine yA (zBO (yA (wpAny_updateDictKeys (hz:=by have e:=size_of_entries q; ext) (s:={ s with toks:=s.toks+knd.draws k }) i h (y4 (m (zCA c) _ ⟨_,_,B+1,zBs _ i (Obj.isFreed_of_dict (Obj.data_mapDictKeys h _)), F.mapDictKeys _,Obj.data_mapDictKeys h _,?_,?_,?_⟩ (zB8 ..))))))
  ·rw[zDT (zCA c)];simp [q,zDY]
  ·rw[zDT (zCA c)];intro x g;rcases w8.mp g with g | g;·exact knd.keeps (n x g) i h (zB8 ..)
   ·simp only [wP] at g;subst g;exact knd.keeps b i h (zB8 ..)
  ·rw[zDT (zCA c)];rw[v4,List.nodup_append];refine⟨r,by simp,?_⟩;intro x g y t;simp only [zAw,List.map_nil,wP] at t;subst t;exact λe=>l (e ▸ g)
 ·intro j p z;refine yA (wpAny_dictEntries (s:={ s with toks:=s.toks+knd.draws k }) i h ?_);rw[entry_at q j,z];exact yA (zBO (y4 (f p (atKey_of_get r z))))
theorem rE (knd:HeapKind prog w K)(d a:M1)(m:(d == zAO)=false)(b:Value) : MeetsIn prog w (Builtin.«dict.setdefault» ⟨[.ref d,.ref a,b],[]⟩) (λA R s=>knd.room A.in1/\∃k xs,knd.is s.heap k a/\s.heap.DictOfH knd d xs/\xs.length<=PK/\(∀p,zAS xs k=some p->R (.ok (.ret p.2)) { s with toks:=s.toks+knd.draws k })/\(zAS xs k=none->∀h',h'.DictOfH knd d (zBD xs k a b)->Heap.SameBut d s.heap h'->R (.ok (.ret b)) { s with heap:=h',toks:=s.toks+knd.draws k })):= .of_wp λA R s ⟨i,k,xs,c,e,h,j,n⟩=>by refine yA ?_;refine yA (zCB e.typeIs ?_);refine y4 ?_;show zAC _ _ (if (d == zAO)=true then _ else (zDS d _ b >>= _)) _ _ s;rw[xI (by ext)];exact yA (oZ i c e (λp o=>y4 (by ext)) (λl h' f g=>y4 (by ext)) h)
end
end PySem
namespace L2
open PySem PySem.Spec PyProof.Rows TB
section
variable {X:Cx}{pins:zzC}{σ:St}{H:Hp}{s:VV}{a:M1}{y d:V}{u r:Value}{o:Option V}{A:zAI}{E:zzE}
theorem Uw (q:A.units+9 < zAN)(I:Inv X pins σ H s)(g:vW X.K X.prog X.w H a y o)(j:RelV y u)(p:RelV d r)(h:∀i s',Inv X pins σ H s'->RelV (o.getD d) i->Q i s') : zAC (zAD X.prog X.w) A (call (.builtin "dict.get") [.ref a,u,r]) Q E s:=by obtain⟨m,n,k,b,w,rfl,v,rfl⟩:=g;cases (show u=Value.ref b from j);obtain⟨t,l,f,_,_,_,e⟩:=lH I w;refine zCP zCv f.typeIs PySem.F.entry_dict_get (PySem.F.args_dict_get_3 _ _ _) (meetsH_dict_get_default _ a b t r) ⟨xF q,k,l,v.key I,f,h _ _ (I.tok _) ?_⟩;exact (e k).getD p
noncomputable def N3 (K:zzA)(P:zAA)(w:zAE)(H:Hp)(a:M1)(y v:V)(Q:V->Hp->Prop):Prop:=∃m n k b,bE K P w H a m n/\n < PK/\y=.ref b/\NK K H k b/\(∀z,m k=some z->Q z H)/\(m k=none->∀o,bE K P w (upd H a o) a (λj=>if j=k then some v else m j) (n+1)->Q v (upd H a o))
theorem N4 (hu:A.units+9 < zAN)(I:Inv X pins σ H s)(g:N3 X.K X.prog X.w H a y v R)(ry:RelV y u)(rv:RelV v r)(h:∀z M H' s',Inv X pins σ H' s'->RelV z M->R z H'->Q M s') : zAC (zAD X.prog X.w) A (call (.builtin "dict.setdefault") [.ref a,u,r]) Q E s:=by
 obtain⟨m,n,k,b,K,hn,rfl,J,P,k2⟩:=g;cases (show u=Value.ref b from ry);have B:=K.mut;obtain⟨N,L,O,eH,hl,F,j⟩:=lH I K;have c:=j k;refine zCP PySem.F.slot_dict_setdefault O.typeIs PySem.F.entry_dict_setdefault (PySem.F.args_dict_setdefault_3 _ _ _) (rE _ a b N r) ⟨xF hu,k,L,J.key I,O,by lia,λp l=>?_,λl Y C hs=>?_⟩
 ·rw[l] at c;cases e:m k with| none=>rw[e] at c; exact c.elim| some z=> rw[e] at c;exact h z _ H _ (I.tok _) c (P z e)
 ·rw[l] at c;have e:m k=none:=by cases e:m k with| none=>rfl| some z=>rw[e] at c; exact c.elim
  obtain⟨q,es,U,i,h2,S,W,_,Z⟩:=C;have D:EM X.prog X.w Y a _:=⟨N,q,es,U,i,h2,S,W,Z⟩;refine h v r _ _ (xE I B hs ⟨q,i⟩ (yO D)) rv (k2 e _ ⟨zBD L k b r,aq,?_,λx G=>?_,λw=>?_⟩)
  ·unfold zBD;ext
  ·rw[zDT l] at G;rcases w8.mp G with z | z;·exact (F x z).tups λq T i=>ny B i
   ·rw[wP.mp z];exact J.tups λq T i=>ny B i
  ·rw[Ce];show f9 (if w=k then some v else m w) _;by_cases t:w=k;·rw[v6 t,v6 t]; symm
   ·rw[xI t,xI t]; exact j w
noncomputable def Ux (K:zzA)(P:zAA)(w:zAE)(H:Hp)(a:M1):Prop:=∃m n,bE K P w H a m n
theorem LD (I:Inv X pins σ H s)(d:Ux X.K X.prog X.w H a):s.TypeIs (.ref a) "dict"/\∀b,Value.ref a=.ref b->∃c,s.heap.get? b=some c/\c.dict=none:=by obtain⟨m,n,f⟩:=d;obtain⟨j,i,e,_⟩:=lH I f;refine⟨e.typeIs,λb q=>?_⟩;cases q;obtain⟨c,_,_,h,g,_⟩:=e;exact⟨c,h,g.2.1⟩
end
noncomputable def Uy (K:zzA)(P:zAA)(w:zAE)(e f g:TE):TE:=fun σ H Q=>e σ H λx c=>∃a,x=.ref a/\Ux K P w c a/\f σ c λy h=>g σ h λz d=>∃o,vW K P w d a y o/\Q (o.getD z) d
noncomputable def WN (K:zzA)(P:zAA)(w:zAE)(d e g:TE):TE:=fun σ H Q=>d σ H λx c=>∃a,x=.ref a/\Ux K P w c a/\e σ c λy h=>g σ h λz f=>N3 K P w f a y z Q
section
variable {X:Cx}{o e f:zAR}{apos cpos:Pos}{td ty tx:TE}(K:zzA)(P:zAA)(w:zAE)
theorem Uz (V:X.A.units+9 < zAN)(n:PE X o td)(O:PE X e ty)(U:PE X f tx)(m:M2 X o "get" apos e f cpos)(C:X.K=K:=by rfl)(G:X.prog=P:=by rfl)(J:X.w=w:=by rfl):PE X (.Call (.Attribute o "get" apos) [e,f] [] cpos) (Uy K P w td ty tx):=by subst C; subst G; subst J;intro c s σ H Q I h;refine zCZ m.base m.few m.line zCk zCv PySem.F.type_dict_get (aQ (n c s σ H _ I h) λu p N=>?_);obtain⟨x,q,j,E,a,A,d,r⟩:=N;subst A;obtain rfl:u=Value.ref a:=E;obtain⟨D,t⟩:=LD j d;refine⟨D,t,?_⟩;rw[m.trees];refine zCo rfl (zCz (zCd (aQ (O c p σ q _ j r) λiv R ⟨y,k,l,M,F⟩=> zCd (aQ (U c R σ k _ l F) λW Y ⟨z,v,S,L,Z,g,T⟩=>Calls.spliced_nil ?_))));exact Uw V S g M L λw' s4 B i=>⟨_,v,B,i,T⟩
theorem WO (V:X.A.units+9 < zAN)(n:PE X o td)(U:PE X e ty)(T:PE X f tx)(m:M2 X o "setdefault" apos e f cpos)(C:X.K=K:=by rfl)(R:X.prog=P:=by rfl)(S:X.w=w:=by rfl):PE X (.Call (.Attribute o "setdefault" apos) [e,f] [] cpos) (WN K P w td ty tx):=by subst C; subst R; subst S;intro c s σ H Q I h;refine zCZ m.base m.few m.line zCk PySem.F.slot_dict_setdefault PySem.F.type_dict_setdefault (aQ (n c s σ H _ I h) λu p L=>?_);obtain⟨x,r,j,E,a,M,d,t⟩:=L;subst M;obtain rfl:u=Value.ref a:=E;obtain⟨D,v⟩:=LD j d;refine⟨D,v,?_⟩;rw[m.trees];refine zCo rfl (zCz (zCd (aQ (U c p σ r _ j t) λiv N ⟨y,k,l,J,F⟩=> zCd (aQ (T c N σ k _ l F) λfv s3 ⟨z,Z,O,G,g⟩=>Calls.spliced_nil ?_))));exact N4 V O g J G λW w' A Y B i q=>⟨W,A,B,i,q⟩
end
noncomputable def UA (K:zzA)(c d:TE):TE:=fun σ H Q=>c σ H λx b=>∃k,AY K x b k/\if k=true then Q x b else d σ b Q
section
variable {X:Cx}{a b:zAR}{rest:List zAR}{pos:Pos}{ta tb:TE}(K:zzA)
theorem Y6 (r:PE X a ta)(l:PE X (.BoolOp .Or (b::rest) pos) tb)(w:X.K=K:=by rfl):PE X (.BoolOp .Or (a::b::rest) pos) (UA K ta tb):=by intro d s σ H Q I h;refine BoolOp_or (aQ (r d s σ H _ I h) λv q o=>?_);obtain⟨x,g,t,f,k,u,e⟩:=o;refine aQ (KW d q σ g x v (λc j=>c=k/\j=g) t f (by ext)) λc n m=>?_;obtain⟨j,i,p,rfl⟩:=m;subst p;cases c with| true=>exact⟨x,_,i,f,e⟩| false=>exact l d n σ _ Q i e
end
noncomputable def Rv:V->List V->Hp->VK->Prop:=λx a H Q=>∃i,x=.int i/\a=[]/\Q (.int (((Builtin.Int.intBits i:Nat):Int))) H
theorem LF:B8 X "int.bit_length" Rv:=by intro c s σ H x e v f Q I d b h;obtain⟨i,rfl,rfl,q⟩:=h;cases b;obtain⟨t,rfl⟩:=d;exact call_gives F.slot_int_bit_length rfl F.entry_int_bit_length (F.args_int_bit_length_1 _) (AutoIntG2.int_bit_length_int_0 i t) (⟨.int _,H,I.tok _,⟨_,rfl⟩,q⟩)
theorem rG:∀(ns:List Int) (n:Nat),n<=ns.length->preSum (λi=>ns.getD i 0) n=(ns.take n).sum| ns,0,_=>by rfl| ns,n+1,h=>by have:=rG ns n (zBk h);show preSum _ n+ns.getD n 0=_;rw[this,zAm,List.sum_append,y2,y8 ‹_›];simp
theorem yd {ns:List Int}(h:∀n∈ns,0<=n)(k:Nat):0<=(ns.take k).sum/\(ns.take k).sum<=ns.sum:=by induction ns generalizing k with| nil=>simp| cons a e c=> cases k with| zero=> have d:=h a zAc;have:=c (λn b=>h n (zB1 _ b)) e.length;rw[zAd] at this;simp;lia| succ k=> have d:=h a zAc;have:=c (λn b=>h n (zB1 _ b)) k;simp;lia
noncomputable def UB (K:zzA):List V->Hp->VK->Prop:=λc H Q=>∃(l:M1) (a:List Int),c=[.ref l]/\ay K H l (a.map V.int)/\(∀n∈a,0<=n)/\a.sum < 2 ^ 62/\Q (.int a.sum) H
theorem N5 (D:X.calm=true):b_ X (.builtin "sum") (UB X.K):=by
 intro B s σ H M U Q I r h;obtain⟨l,a,rfl,E,d,K,q⟩:=h;obtain⟨u,rfl,w⟩:=vals1 r;cases w;obtain⟨c,rv,k,W⟩:=I.list E;have g:=rv.length;rw[yB] at g;refine call_sum_walk (zCx k.isList ⟨s.heap.objs.size,[s.heap.objs.size,l],[s.heap.objs.size],c.toArray.size,_,_,λi=>a.getD i 0,rfl,Walks.list (by simp [I.ok.hd D]) _ l ?_ c.toArray,⟨⟨_,u3 _ rfl,rfl,rfl⟩,?_⟩,λb A=>?_,λi v T=>?_,λj L=>?_,λN J G C=>?_⟩)
 ·obtain⟨o,n,f,_⟩:=k;exact wE (vT f)
 ·obtain⟨o,f,r⟩:=k.isList;exact⟨o,y1 _ f,r⟩
 ·have R:l < s.heap.objs.size:=by obtain⟨o,n,f,_⟩:=k;exact vT f
  rw[size_push];grind
 ·have y:c[i]?=some v:=by ext
  have P:i < a.length:=by grind
  obtain⟨u,F,w⟩:=rv.get (i:=i) (x:=.int a[i]) (by simp);rw[y] at F;obtain⟨t,rfl⟩:=w;grind
 ·have m:j < a.length:=by ext
  have O:=yd d (j+1);have V:=yd d j;have p:=rG a (j+1) ‹_›;have S:a.getD j 0∈a:=by ext
  have z:(a.take (j+1)).sum=(a.take j).sum+a.getD j 0:=by rw[zAm,List.sum_append,y2,y8 m]; simp
  show (-(2 ^ 63)<=a.getD j 0/\a.getD j 0 < 2 ^ 63)/\-(2 ^ 63)<=preSum _ _/\preSum _ _ < 2 ^ 63;refine⟨⟨?_,?_⟩,?_,?_⟩ <;> lia
 ·have p:=rG a a.length (y6 _);rw[zAd] at p;have z:c.toArray.size=a.length:=by simp; ext
  rw[z,p];exact⟨.int a.sum,H,I.kept (λb o e=>C b o (λA=>absurd (vT e) (by rw[wP.mp A]; exact zBl _)) (y1 _ e)),⟨G,rfl⟩,q⟩
section
variable {X:Cx}(K:zzA)
theorem Y7 (h:X.K=K:=by rfl)(a:X.calm=true:=by rfl):b_ X (.builtin "sum") (UB K):=h ▸ N5 a
end
theorem yR:fillsNumberSlot (.type "tuple") "mul"=pure false:= PySem.fillsNumberSlot_seq F.slot_tuple_mul.lookup (by rfl) F.slot_tuple_rmul.lookup (by rfl)
theorem EZ:seqRepeat? (.type "tuple")=pure (some (.builtin "tuple.__mul__")):=by rfl
section
variable {prog:zAA}{w:zAE}{A:zAI}{E:zzE}{s:VV}
theorem LG (k:Int)(t:Tok)(a:M1):Meets (Builtin.«int.__rmul__» ⟨[.int k t,.ref a],[]⟩) (λ_ R s=>(∃o xs m,s.heap.get? a=some o/\o.cls=.type "tuple"/\o.data=.seq xs m)/\R (.ok (.ret Value.notImplemented)) s):= .of_wp λprog w A R s h=>by obtain⟨⟨o,xs,m,c,d,b⟩,h⟩:=h;wp_walk;rw[b];wp_walk;ext
theorem Rw (v:Value):∀n:Nat,foldl (·++·) (#[]:Array Value) (replicate n #[v])=(replicate n v).toArray:=by
 have f:∀n a,foldl (·++·) a (replicate n #[v])=a++(replicate n v).toArray:=λn=>by induction n with| zero=>simp| succ n b=> grind
 ext
theorem LH {a:M1}{o:Obj}{v:Value}{m n:Nat}{t:Tok}{P:PySem.Fin->VV->Prop}(c:s.heap.get? a=some o)(f:o.cls=.type "tuple")(g:o.data=.seq #[v] m)(q:1<=n)(r:n<=1000)(e:n=1->P (.done (.ret (.ref a))) s) (h:P (.done (.ret (.ref s.heap.objs.size))) { s with heap:=s.heap.push { cls:=.type "tuple",data:=.seq (replicate n v).toArray } }) : zAC (zAD prog w) A (Builtin.«tuple.__mul__» ⟨[.ref a,.int n t],[]⟩) P E s:=by
 refine yA (wpAny_of_eq rfl ?_);have p:¬ ((decide ((n:Int) < -(2 ^ 63))||decide ((n:Int) >= 2 ^ 63))=true):=by grind
 rw[xI p];refine yA (wpAny_tupleItemsOf c g ?_);have k:¬ ((decide ((n:Int)<=0)||(#[v]).isEmpty)=true):=by grind
 have d:¬ ((((#[v]).size:Int) * n) > (2 ^ 63 - 1) / 8):=by grind
 have i:¬ (Builtin.Tuple.tupleTooMany (((#[v]).size) * n)=true):=by unfold Builtin.Tuple.tupleTooMany;rw[u4];grind
 by_cases l:n=1
 ·subst l;refine yA (yA (zCp ⟨o,c,f⟩ (y4 ?_)));exact yA (zBO (y4 (e rfl)))
 ·have j:¬ (((#[v]).isEmpty||(n:Int) == 1)=true):=by grind
  rw[xI j,xI k,xI d,xI i,Rw];exact yA (zCy (y4 h) (show (replicate n v).toArray.size<=PK by rw[zBf,List.length_replicate,u4]; lia))
end
noncomputable def J7 (K:zzA):R2:=λx y H Q=>∃(a:M1) (v:V) (n:Nat),x=.ref a/\y=.int (n:Int)/\aG K H a [v]/\1<=n/\n<=1000/\∀p c,ah H c->aG K c p (replicate n v)->Q (.ref p) c
theorem E1 (r:RelV v u):∀n:Nat,Vals (replicate n v) (replicate n u)| 0=>.nil| n+1=>.cons r (E1 r n)
theorem Rx:dU X (zAV .Mult) (J7 X.K):=by
 intro f s σ H x y u v Q I k p h;obtain⟨a,z,n,rfl,rfl,g,B,w,q⟩:=h;cases k;obtain⟨t,rfl⟩:=p;obtain⟨i,C,⟨o,d,c,m,j⟩,_⟩:=I.tuple g;obtain⟨l,rfl,r⟩:=vals1 C;refine zCV (by decide) ⟨_,d,c⟩ (λD=>typeIs_int D n t) yR F.fills_int_mul F.slot_int_rmul EZ F.slot_int_index.lookup (zBP F.slot_int_rmul rfl F.entry_int_rmul (F.args_int_rmul_2 _ _) (LG n t a) ⟨(by ext),rfl,⟨_,d,c⟩,zBh F.slot_tuple_mul ⟨_,d,c⟩ F.entry_tuple_mul ?_ (F.args_tuple_mul_2 _ _)⟩);refine LH d c j B w (λe=>⟨_,rfl,?_⟩) ⟨_,rfl,?_⟩
 ·subst e;exact⟨.ref a,H,I,rfl,q a H (ah.refl H) g⟩
 ·have A:=I.hok.fresh (y6 _);refine⟨.ref s.heap.objs.size,upd H s.heap.objs.size (.tup _),I.laid (λb o e=>y1 _ e) (y6 _) ⟨?_,replicate n l,E1 r n,IsTup.new _ _⟩,rfl,q _ _ (ah.new A _) (aG.of aq)⟩;rw[List.length_replicate,u4];lia
theorem Pw (K:zzA)(h:X.K=K:=by rfl):dU X (zAV .Mult) (J7 K):=h ▸ Rx
structure jg (K:zzA)(C:M1)(m q:Str)(st:zAL)(f:M1)(fd:zAF)(ps:List Str):Prop where
 fn:nR K m q st f fd
 bd:Binds K fd ps []
 me:Meth K C m f
theorem cN.j5 (r:cN k A):A.units+9 < zAN:=by have:=r.un; lia
section
variable {X:Cx}{CX:uT}{k:Nat}{f C:M1}{fd:zAF}{ps:List Str}{sp:Sp}{E:XK}{x m q:Str}{st:zAL}{p pos apos cpos tpos:Pos}{e o i value:zAR}{es:List zAR}{ta tv td ty:TE}{t:TA}(K:zzA)
theorem bf (b:PE X e ta)(h:X.K=K:=by rfl)(a:zBA e y X.env (zAM e X.env)=zAM e X.env:=by rfl):PE X (.Attribute e y pos) (kh K ta y):=h ▸ Td b a
theorem jT (c:PE X o ta)(a:PE X value tv)(h:X.K=K:=by rfl)(b:zBR value (some (.Attribute o y tpos)) pos.line X.env=pure false:=by rfl):PS X (.Assign [.Attribute o y tpos] value pos) (vE K ta tv y):=h ▸ Te c a b
theorem N6 {r:Sem Bool}(D:jg X.K C m q st f fd ps)(c:gK X.K C)(F:aL X.prog X.w X.K X.mg X.base CX k f fd ps sp)(l:cN k X.A)(h:Passes CX X E)(s:PE X o ta)(j:PA X (e::es) t)(b:zAG (e::es) X.env=(false,zAM e X.env)::zAG es X.env:=by rfl) (d:(zAW pos (zAG es X.env)).any (·.1)=false:=by rfl)(n:zAM (.Call (.Attribute o m apos) (e::es) [] pos) X.env=(do let g <-zAM o X.env;zCX apos.atName;let (f,a) <-zBV [g] (zCE g m r);zDG pos f a (zAW pos (zAG (e::es) X.env)) (zBY pos (zAY [] X.env))):=by rfl) : PE X (.Call (.Attribute o m apos) (e::es) [] pos) (ud C m sp [] E ta t):=Q3 s c D.me F l D.bd .nil h j b d n
theorem LI (D:jg X.K C m q st f fd ps)(c:gK X.K C)(F:aL X.prog X.w X.K X.mg X.base CX k f fd ps sp)(h:cN k X.A)(g:Passes CX X E)(j:PE X o ta)(d:zAM (.Call (.Attribute o m apos) [] [] pos) X.env=(do let b <-zAM o X.env;zCX apos.atName;let (f,a) <-zBV [b] (zCE b m l);zDG pos f a (zAW pos (zAG [] X.env)) (zBY pos (zAY [] X.env))):=by rfl) : PE X (.Call (.Attribute o m apos) [] [] pos) (ud C m sp [] E ta dR):=Nk j c D.me F h D.bd .nil g d
theorem E2 (M:Mk X.K C f)(D:jg X.K C m q st f fd ps)(F:aL X.prog X.w X.K X.mg X.base CX k f fd ps sp)(d:cN (k+1) X.A)(l:X.mg x=some (.ref C))(c:Passes CX X E)(j:PA X (e::es) t)(h:Gl X x:=by rfl)(a:(x == ("__debug__":Str))=false:=by decide) (g:zAG (e::es) X.env=(false,zAM e X.env)::zAG es X.env:=by rfl) (b:(zAW pos (zAG es X.env)).any (·.1)=false:=by rfl) : PE X (.Call (.Name x p) (e::es) [] pos) (zE C sp [] E t):=Q4 M F d h l D.bd .nil c j a g b
theorem LJ (M:Mk X.K C f)(D:jg X.K C m q st f fd ps)(F:aL X.prog X.w X.K X.mg X.base CX k f fd ps sp)(c:cN (k+1) X.A)(g:X.mg x=some (.ref C))(b:Passes CX X E)(d:Gl X x:=by rfl)(a:(x == ("__debug__":Str))=false:=by decide):PE X (.Call (.Name x p) [] [] pos) (zE C sp [] E dR):=Nl M F c d g D.bd .nil b a
theorem N7 {T id:String}(j:zDb T)(c:Slot T name id)(d:typeOf (.builtin id)=pure (.type "method_descriptor"))(g:B8 X id r)(l:PE X o ta)(h:X.K=K:=by rfl)(b:zBA o name X.env (zAM o X.env)=zAM o X.env:=by rfl) (a:(apos.endLine == cpos.line)=true:=by rfl):PE X (.Call (.Attribute o name apos) [] [] cpos) (Tp K T r ta):=h ▸ Tq j c d g l b a
theorem Px (a:X.calm=true:=by rfl):b_ X (.builtin "min") (λxs H Q=>∃i j,xs=[.int i,.int j]/\Q (.int (if j < i then j else i)) H):=KZ a
theorem Py (a:X.calm=true:=by rfl):b_ X (.builtin "max") (λxs H Q=>∃i j,xs=[.int i,.int j]/\Q (.int (if j > i then j else i)) H):=KY a
end
noncomputable def UC (N P:List Str)(a:zCT):Bool:= decide (a.kind=.function)&&!a.isCoroutine&&!a.isGenerator&&decide N.Nodup&&decide (N.take P.length=P)&&P.all (λx=>decide (a.names.lookup x=some .local\/a.names.lookup x=some .cell))&&a.names.all λy=>decide (y.2≠.free)
theorem cI (h:UC N P b=true:=by decide +kernel):aN N P b:=by simp only [UC,zAp,zAu,zCj,zAj] at h;obtain⟨⟨⟨⟨⟨⟨j,g⟩,e⟩,f⟩,c⟩,d⟩,i⟩:=h;exact⟨j,g,e,f,c,d,i⟩
section
variable {X:Cx}{x y:Str}{e:zAR}{te:TE}{pos pos' py spos:Pos}
theorem bu (i:Nat)(a:X.N.Nodup)(d:X.N[i]?=some x:=by rfl)(b:Loc X.env.scope x:=by first | exact Or.inl rfl | exact Or.inr rfl)(c:X.fn x=true\/X.env.scope.names.lookup x=some .local:=by first | exact .inl rfl | exact .inr rfl | symm):PG X (.Name x pos) (cz i):=QW a d b c
theorem bh (i:Nat)(a:X.N.Nodup)(d:PE X e te)(b:X.N[i]?=some x:=by rfl)(c:Loc X.env.scope x:=by first | exact Or.inl rfl | exact Or.inr rfl)(g:zBR e (some (.Name x pos')) pos.line X.env=pure false:=by rfl)(f:X.fn x=true\/X.env.scope.names.lookup x=some .local:=by first | exact .inl rfl | exact .inr rfl | symm) : PS X (.Assign [.Name x pos'] e pos) (AX te (cz i)):=SY a b c d g f
variable {sc:zCT}{elt tg iter:zAR}{ifs:List zAR}{wi:TI}{g:TG}{tf:TT}
theorem gg (a:List Str)(d:List (Option Nat))(f:PI X tg iter wi)(h:∀C b c ex,a.Nodup->PG (cZ X a sc C b c ex) tg g/\PF (cZ X a sc C b c ex) ifs tf/\PE (cZ X a sc C b c ex) elt te)(i:zO X.env.scope.names X.N a d sc=true:=by kernel_rfl) (k:X.calm=true:=by rfl)(j:∀x,zBH iter X.env x=pure x:=by intro _; rfl):PE X (.ListComp elt [⟨tg,iter,ifs,0⟩] sc pos) (oY wi d g tf te):= have S:=vJ (X:=X) i;Ra S k f (λC s H ex=>(h C s H ex S.nd).1) (λC s H ex=>(h C s H ex S.nd).2.1) (λC s H ex=>(h C s H ex S.nd).2.2) j
theorem UD (i:Nat)(k:X.N.Nodup)(a:List Str)(j:List (Option Nat))(n:PI X tg iter wi)(h:∀C c d ex,a.Nodup->PG (cZ X a sc C c d ex) tg g/\PF (cZ X a sc C c d ex) ifs tf/\PE (cZ X a sc C c d ex) elt te)(o:zO X.env.scope.names X.N a j sc=true:=by kernel_rfl) (l:X.calm=true:=by rfl)(p:X.N[i]?=some y:=by rfl) (m:Loc X.env.scope y:=by first | exact Or.inl rfl | exact Or.inr rfl)(f:zBR (.ListComp elt [⟨tg,iter,ifs,0⟩] sc pos) (some (.Name y py)) spos.line X.env=pure true:=by rfl)(q:∀x,zBH iter X.env x=pure x:=by intro _; rfl)(b:X.fn y=true\/X.env.scope.names.lookup y=some .local:=by first | exact .inl rfl | exact .inr rfl | symm) : PS X (.Assign [.Name y py] (.ListComp elt [⟨tg,iter,ifs,0⟩] sc pos) spos) (ni i wi j g tf te):= have S:=vJ (X:=X) o;JM k p m S l n (λC s H ex=>(h C s H ex S.nd).1) (λC s H ex=>(h C s H ex S.nd).2.1) (λC s H ex=>(h C s H ex S.nd).2.2) f q b
end
section
variable {X:Cx}{CX:uT}{j k:Nat}{f C:M1}{fd:zAF}{ps:List Str}{sp:Sp}{E:XK}{x m q:Str}{st:zAL}{p pos apos:Pos}{e o:zAR}{es:List zAR}{ta:TE}{t:TA}
theorem cD (D:Def X.K X.mg x st f fd ps)(F:aL X.prog X.w X.K X.mg X.base CX j f fd ps sp)(d:cN k X.A)(c:Passes CX X E)(i:PA X (e::es) t)(l:j<=k:=by first | decide | lia)(h:Gl X x:=by rfl)(a:(x == ("__debug__":Str))=false:=by decide) (g:zAG (e::es) X.env=(false,zAM e X.env)::zAG es X.env:=by rfl) (b:(zAW pos (zAG es X.env)).any (·.1)=false:=by rfl) : PE X (.Call (.Name x p) (e::es) [] pos) (oW sp [] E t):=NN D F (d.mono l) c i h a g b
theorem cM {s:Sem Bool}(D:jg X.K C m q st f fd ps)(c:gK X.K C)(F:aL X.prog X.w X.K X.mg X.base CX j f fd ps sp)(i:cN k X.A)(h:Passes CX X E)(u:PE X o ta)(l:PA X (e::es) t)(n:j<=k:=by first | decide | lia)(b:zAG (e::es) X.env=(false,zAM e X.env)::zAG es X.env:=by rfl) (d:(zAW pos (zAG es X.env)).any (·.1)=false:=by rfl)(r:zAM (.Call (.Attribute o m apos) (e::es) [] pos) X.env=(do let g <-zAM o X.env;zCX apos.atName;let (f,a) <-zBV [g] (zCE g m s);zDG pos f a (zAW pos (zAG (e::es) X.env)) (zBY pos (zAY [] X.env))):=by rfl) : PE X (.Call (.Attribute o m apos) (e::es) [] pos) (ud C m sp [] E ta t):=N6 D c F (i.mono n) h u l b d r
end
end L2
namespace fX
open PySem PySem.Spec PyProof.Rows L2
def top (i:Nat):zAL:=PySem.Challenge.pw_quiltyard_k10_whole_lets.main.body.getD i (.Pass ⟨0,0,0,0⟩)
abbrev xH:zAL:=top 0
abbrev iW:zAL:=top 9
abbrev jx:zAL:=top 10
abbrev g9:zAL:=top 11
abbrev ku:zAL:=top 12
abbrev jy:zAL:=top 13
abbrev jz:zAL:=top 18
abbrev sX:zAL:=top 19
abbrev kB:zAL:=top 20
abbrev iX:zAL:=top 21
abbrev lX:zAL:=top 22
abbrev lY:zAL:=top 23
abbrev gk:zAL:=top 24
abbrev jA:zAL:=top 25
abbrev lZ:zAL:=top 26
abbrev l6:zAL:=top 27
abbrev sY:zAL:=top 28
abbrev pU:zAL:=top 30
abbrev iY:zAL:=top 31
abbrev jB:zAL:=top 34
abbrev kC:zAL:=top 35
abbrev ff:zAL:=top 36
abbrev gP:zAL:=top 38
abbrev pV:zAL:=top 39
abbrev vY:zAL:=top 40
abbrev kD:zAL:=top 42
abbrev l7:zAL:=top 43
abbrev g_:zAL:=top 44
abbrev jC:zAL:=top 45
abbrev iZ:zAL:=top 46
abbrev i0:zAL:=top 47
abbrev kE:zAL:=top 48
abbrev jD:zAL:=top 49
abbrev o4:zAL:=top 50
abbrev dO:zAL:=inClass (top 32) 0
abbrev c_:zAL:=inClass (top 32) 1
abbrev eN:zAL:=inClass (top 32) 2
abbrev gv:zAL:=inClass (top 32) 3
abbrev eW:zAL:=inClass (top 32) 4
abbrev dG:zAL:=inClass (top 32) 5
abbrev dZ:zAL:=inClass (top 32) 6
abbrev dc:zAL:=inClass (top 32) 7
abbrev fh:zAL:=inClass (top 32) 8
abbrev gm:zAL:=inClass (top 33) 0
abbrev fH:zAL:=inClass (top 33) 1
abbrev fJ:zAL:=inClass (top 33) 2
abbrev gQ:zAL:=inClass (top 33) 3
abbrev h_:zAL:=inClass (top 33) 4
abbrev dH:zAL:=inClass (top 33) 5
abbrev d7:zAL:=inClass (top 33) 6
abbrev ia:zAL:=inClass (top 33) 7
abbrev ic:zAL:=inClass (top 33) 8
abbrev ie:zAL:=inClass (top 33) 9
set_option genInjectivity false in
structure Ad where
 Ry:M1
 Be:zAF
 kW:M1
 gB:zAF
 pW:M1
 jE:zAF
 jU:M1
 f7:zAF
 rH:M1
 kF:zAF
 pX:M1
 jF:zAF
 pY:M1
 jG:zAF
 Bf:M1
 sZ:zAF
 rJ:M1
 kG:zAF
 kX:M1
 gC:zAF
 uw:M1
 l8:zAF
 ux:M1
 l9:zAF
 pZ:M1
 iI:zAF
 p9:M1
 jH:zAF
 uy:M1
 l_:zAF
 uz:M1
 mh:zAF
 Bg:M1
 s_:zAF
 E3:M1
 uA:zAF
 uX:M1
 kY:zAF
 vZ:M1
 mq:zAF
 yf:M1
 nJ:zAF
 nY:M1
 gR:zAF
 mw:M1
 gS:zAF
 yS:M1
 p_:zAF
 LK:M1
 z4:zAF
 rK:M1
 kH:zAF
 mz:M1
 iJ:zAF
 nC:M1
 ig:zAF
 qb:M1
 jI:zAF
 oF:M1
 i6:zAF
 oG:M1
 i7:zAF
 rL:M1
 kI:zAF
 qc:M1
 jJ:zAF
 z5:M1
 uB:zAF
 qP:Value
 nK:Value
 jV:Value
 uC:Value
 mD:Value
 kZ:Value
 E4:M1
 dI:M1
 fY:M1
 aF:M1
 bB:M1
 ir:M1
 fu:zAF
 j6:M1
 j7:zAF
 mY:M1
 gw:zAF
 vf:M1
 jc:zAF
 rM:M1
 rN:zAF
 kJ:M1
 kK:zAF
 mG:M1
 fO:zAF
 j8:M1
 j9:zAF
 nZ:M1
 gT:zAF
 lA:M1
 iK:zAF
 oO:M1
 g7:zAF
 oQ:M1
 g8:zAF
 qQ:M1
 jh:zAF
 tu:M1
 jW:zAF
 kL:M1
 kM:zAF
 mH:M1
 fP:zAF
 tw:M1
 jX:zAF
 tD:M1
 jY:zAF
 tE:M1
 jZ:zAF
structure Txt (K:zzA)(mg:Str->Option Value)(t:Ad):Prop where
 _wall:Def K mg "_wall" xH t.Ry t.Be ["k"]
 rO:Def K mg "are_letters" iW t.kW t.gB ["text"]
 z6:Def K mg "is_picture" jx t.pW t.jE ["rows"]
 qd:Def K mg "look_picture" g9 t.jU t.f7 ["picture"]
 Ci:Def K mg "column_at" ku t.rH t.kF ["picture","place"]
 z7:Def K mg "columns_of" jy t.pX t.jF ["picture"]
 z8:Def K mg "are_fields" jz t.pY t.jG ["fields","many","marks"]
 Pz:Def K mg "rises" sX t.Bf t.sZ ["tiles"]
 Cj:Def K mg "is_system" kB t.rJ t.kG ["system"]
 rP:Def K mg "look_system" iX t.kX t.gC ["system"]
 E5:Def K mg "bordered" lX t.uw t.l8 ["rows"]
 E6:Def K mg "tiles_of" lY t.ux t.l9 ["rows"]
 tF:Def K mg "mirrored_tiles" gk t.pZ t.iI ["tiles"]
 z9:Def K mg "stands_for" jA t.p9 t.jH ["letters","mark","letter"]
 E7:Def K mg "row_fits" lZ t.uy t.l_ ["letters","text","marks"]
 E8:Def K mg "rows_fit" l6 t.uz t.mh ["letters","picture","rows"]
 PB:Def K mg "shows" sY t.Bg t.s_ ["system","picture","rows"]
 tG:Def K mg "bit_of" pU t.E3 t.uA ["field"]
 yg:Def K mg "least_field" iY t.uX t.kY ["bits"]
 z_:Def K mg "walk_right" jB t.vZ t.mq ["sets","system","high"]
 Ck:Def K mg "walk_left" kC t.yf t.nJ ["sets","system","high"]
 qe:Def K mg "columns_that_end" ff t.nY t.gR ["sets","system","high","columns"]
 uY:Def K mg "least_columns" gP t.mw t.gS ["system","columns"]
 LL:Def K mg "row_at" pV t.yS t.p_ ["columns","row"]
 lets:Def K mg "lets" vY t.LK t.z4 ["system","picture"]
 _law_cell:Def K mg "_law_cell" kD t.rK t.kH ["_law_script","_law_k"]
 _law_mix:Def K mg "_law_mix" l7 t.mz t.iJ ["_law_script","_law_k"]
 _law_picture:Def K mg "_law_picture" g_ t.nC t.ig ["_law_script","_law_k","_law_high","_law_wide","_law_letters"]
 _law_tiles:Def K mg "_law_tiles" jC t.qb t.jI ["_law_rows"]
 _law_system:Def K mg "_law_system" iZ t.oF t.i6 ["_law_script","_law_k","_law_marks"]
 _law_column:Def K mg "_law_column" i0 t.oG t.i7 ["_law_system_here","_law_left","_law_text","_law_right"]
 _law_last:Def K mg "_law_last" kE t.rL t.kI ["_law_system_here","_law_column_here"]
 _law_least:Def K mg "_law_least" jD t.qc t.jJ ["_law_system_here","_law_picture_here","_law_way","_law_dead"]
 law:Def K mg "law" o4 t.z5 t.uB ["_law_script"]
 LM:mg "LETTERS"=some t.qP
 LN:RelV (.str "abcd") t.qP
 GX:mg "MOST_ROWS"=some t.nK
 GY:RelV (.int 4) t.nK
 Bh:mg "MOST_COLUMNS"=some t.jV
 Bj:RelV (.int 12) t.jV
 gn:mg "BORDER"=some t.uC
 gp:RelV (.int (-1)) t.uC
 E9:mg "MOST_MARKS"=some t.mD
 Fb:RelV (.int 16) t.mD
 C7:mg "TILE_FIELDS"=some t.kZ
 C8:RelV (.int 4) t.kZ
 UE:mg "QuiltError"=some (.ref t.E4)
 UG:mg "BadPicture"=some (.ref t.dI)
 Wx:mg "BadSystem"=some (.ref t.fY)
 GZ:mg "FieldSets"=some (.ref t.aF)
 LO:mg "Walk"=some (.ref t.bB)
 aX:gK K t.aF
 fy:aV K t.aF "branches"
 gU:aV K t.aF "known"
 ji:aV K t.aF "either_known"
 j_:aV K t.aF "both_known"
 jK:aV K t.aF "first_known"
 mZ:jg K t.aF "__init__" "FieldSets.__init__" dO t.ir t.fu ["self"]
 bC:jg K t.aF "number_for" "FieldSets.number_for" c_ t.j6 t.j7 ["self","depth","branches"]
 kq:jg K t.aF "of_one" "FieldSets.of_one" eN t.mY t.gw ["self","fields"]
 MU:jg K t.aF "of_all" "FieldSets.of_all" gv t.vf t.jc ["self","depth","tuples"]
 J8:jg K t.aF "tuples_in" "FieldSets.tuples_in" eW t.rM t.rN ["self","depth","number"]
 fQ:jg K t.aF "in_either" "FieldSets.in_either" dG t.kJ t.kK ["self","depth","one","other"]
 gW:jg K t.aF "in_both" "FieldSets.in_both" dZ t.mG t.fO ["self","depth","one","other"]
 iu:jg K t.aF "with_first" "FieldSets.with_first" dc t.j8 t.j9 ["self","depth","number","bits"]
 qf:jg K t.aF "least" "FieldSets.least" fh t.nZ t.gT ["self","depth","number"]
 Fc:Mk K t.aF t.ir
 eT:gK K t.bB
 mJ:aV K t.bB "sets"
 jk:aV K t.bB "letters"
 mK:aV K t.bB "high"
 fj:aV K t.bB "lower_left"
 fB:aV K t.bB "closing"
 lI:aV K t.bB "choices_known"
 fR:aV K t.bB "placed_known"
 fS:aV K t.bB "closed_known"
 nE:jg K t.bB "__init__" "Walk.__init__" gm t.lA t.iK ["self","sets","letters","tiles","high"]
 qR:jg K t.bB "take_tile" "Walk.take_tile" fH t.oO t.g7 ["self","tile"]
 qS:jg K t.bB "beginning" "Walk.beginning" fJ t.oQ t.g8 ["self"]
 oH:jg K t.bB "choices" "Walk.choices" gQ t.qQ t.jh ["self","left","right","letters"]
 v5:jg K t.bB "placed" "Walk.placed" h_ t.tu t.jW ["self","row","front","letters"]
 fT:jg K t.bB "placed_beneath" "Walk.placed_beneath" dH t.kL t.kM ["self","row","above","front","letters"]
 n9:jg K t.bB "placed_right" "Walk.placed_right" d7 t.mH t.fP ["self","depth","upper","front","letters"]
 mL:jg K t.bB "closed" "Walk.closed" ia t.tw t.jX ["self","depth","front"]
 v7:jg K t.bB "onward" "Walk.onward" ic t.tD t.jY ["self","row","front","letters"]
 qg:jg K t.bB "behind" "Walk.behind" ie t.tE t.jZ ["self","columns","choices"]
 Iq:Mk K t.bB t.lA
 Fd:Dq K mg "BadPicture" t.dI
 UH:JP K t.dI
 G0:Dq K mg "BadSystem" t.fY
 Wy:JP K t.fY
 cg:mg "len"=none
 o5:mg "all"=none
 cH:mg "range"=none
 DC:mg "zip"=none
 PD:mg "max"=none
 PJ:mg "min"=none
 LP:mg "list"=none
 Bk:mg "tuple"=none
 WQ:mg "set"=none
 qh:mg "sorted"=none
 Fe:mg "dict"=none
 WR:mg "sum"=none
 G6:mg "enumerate"=none
 J9:mg "reversed"=none
theorem small (h:n<=1000):n<=PK:=zBk (K9 h)
section
variable {P:zAA}{w:zAE}{K:zzA}{mg:Str->Option Value}{base:Heap}{t:Ad}
theorem Cm (h:Gv b σ H (.ref a))(c:ay K H a xs):Gt (fun σ H Q=>b σ H λx H'=>∃k,AY K x H' k/\Q k H') σ H (!xs.isEmpty):=λR r=>h _ λH' s=>⟨_,.inl ⟨xs,s.seq c,rfl⟩,r H' s⟩
noncomputable def cell (ns:List Int)(k:Int):Int:=if ns=[] then 0 else ns.getD (k % ns.length).toNat 0
inductive Bl (K:zzA)(vs:List V)(H:Hp)(Q:VK)(E_:XK):Prop| mk (a:M1) (ns:List Int) (k:Int):vs=[.ref a,.int k]->ay K H a (ns.map V.int)->ns.length<=63->(∀H',ah H H'->Q (.int (cell ns k)) H')->Bl K vs H Q E_
theorem Ff:aN ["_law_script","_law_k"] ["_law_script","_law_k"] (aE kD):=cI
theorem Fg (T:Txt K mg t):aL P w K mg base bg 1 t.rK t.kH ["_law_script","_law_k"] (Bl K):=by
 refine T._law_cell.fn.ok Ff (λv H Q E h=>?_) (λu A g s H v Q E F h=>?_)
 ·obtain⟨a,b,k,rfl,_⟩:=h;rfl
 obtain⟨a,b,k,rfl,i,B,p⟩:=h;refine⟨_,(aj (bG (vO K (pv 0) (λ_=>rfl)) (av (aK (aI (cO K) (pv 0) (aC eK (pv 1) (aH (dB K) (by rfl) T.cg zA1 (af (pv 0) ai))) (λ_ _=>rfl)))) aW) (av (aK ao))),?_⟩;refine eG (Cm aa i) (λc n f=>?_) λc n f=>?_
 ·have m:b≠[]:=λz=>by rw[z] at c; simp at c
  have o:0 < b.length:=List.length_pos_iff.mpr m;have d:(k % (b.length:Int)).toNat < b.length:=by have C:=zCr k (show (0:Int) < b.length by ext);have y:=zB7 k (show (b.length:Int)≠0 by ext);ext
  have l:g6 (b.map V.int) (k % ((b.map V.int).length:Int))=some (.int (cell b k)):=by
   have y:=zB7 k (show (b.length:Int)≠0 by ext);rw[yB];have e:k % (b.length:Int)=((k % (b.length:Int)).toNat:Int):=by lia
   rw[e];refine bL ?_;unfold cell;rw[xI m,v3,y8 d,y2,y8 d];rfl
  refine bU (f_ aa (λq j=>bA aa (λD r=>f6 (K:=K) (xs:=b.map V.int) (aA aa) ((f.trans (j.trans r)).seq i)) ?_) (f.seq i) l) λq j=>p q (f.trans j);rw[yB]; ext
 ·have e:b=[]:=by cases b with| nil=>rfl| cons x xs=>simp at c
  have:=p n f;rw[show cell b k=0 by unfold cell; rw[v6 e]] at this;exact this
noncomputable def UI (ns:List Int)(k:Int):Int:=(cell ns k+104729 * (k+1)) % 4294967291 * 48271 % 4294967279
noncomputable def mix (ns:List Int)(k:Int):Int:=(UI ns k / 64 * 69621+UI ns k) % 4294967231
theorem Fj (ns:List Int)(k:Int):0<=mix ns k:=zB7 _ (by decide)
inductive tH (K:zzA)(vs:List V)(H:Hp)(Q:VK)(E_:XK):Prop| mk (a:M1) (ns:List Int) (k:Int):vs=[.ref a,.int k]->ay K H a (ns.map V.int)->ns.length<=63->(∀H',ah H H'->Q (.int (mix ns k)) H')->tH K vs H Q E_
theorem rQ:aN ["_law_script","_law_k","_law_number"] ["_law_script","_law_k"] (aE l7):=cI
theorem rR (T:Txt K mg t):aL P w K mg base bg 2 t.mz t.iJ ["_law_script","_law_k"] (tH K):=by
 have b:aL P w K mg base bg 1 t.rK t.kH ["_law_script","_law_k"] (Bl K):=Fg T;refine T._law_mix.fn.ok rQ (λp H Q E h=>?_) (λq A d s H p Q E n h=>?_)
 ·obtain⟨a,e,k,rfl,_⟩:=h;rfl
 obtain⟨a,e,k,rfl,m,o,l⟩:=h;refine⟨_,(aj (bh 2 rQ.nd (aC eK (aC aU (cD T._law_cell b n aM (af (pv 0) (af (pv 1) ai))) (aC lT ao (aC aU (pv 1) ao))) ao)) (aj (bh 2 rQ.nd (aC eK (aC lT (pv 2) ao) ao)) (av (aK (aC eK (aC aU (aC lT (aC pA (pv 2) ao) ao) (pv 2)) ao))))),?_⟩;refine eL (bA (aO (eB (v:=.int (cell e k)) (au aa λ_ _=>aA aa) λf R c r=>⟨a,e,k,rfl,c.seq m,o,r⟩) λf c=>bA az (λu g=>aO aa λ_ _=>az) (.inl ⟨by decide,by decide⟩)) (λ_ _=>az) (by decide)) λf c=>?_;refine eL (bA (bA aa (λ_ _=>az) (.inr ⟨by decide,by decide⟩)) (λ_ _=>az) (by decide)) λu g=>?_;refine bU (bA (aO (bA (bA aa (λ_ _=>az) ⟨by decide,by decide⟩) (λ_ _=>az) (.inr ⟨by decide,by decide⟩)) λ_ _=>aa) (λ_ _=>az) (by decide)) λi j=>?_;exact l i (c.trans (g.trans j))
noncomputable def Gd (K:zzA)(c:TE)(σ:L2.St)(H:Hp)(d:List Dt):Prop:=∀R:VK,(∀p a b,H p=none->ah H a->a p=some (.lst b)->aJ K (Hm p a) d b->R (.ref p) a)->c σ H R
theorem PL {a:TE}{σ:L2.St}{H:Hp}{b:List Dt}{R:VK}(h:Gd K a σ H b)(r:∀p H' vs,H p=none->ah H H'->H' p=some (.lst vs)->aJ K (Hm p H') b vs->R (.ref p) H'):a σ H R:=h R r
theorem LQ (h:Gn d σ H (ns.map V.int)):Gd K (A0 (cA d dR)) σ H [bV ns]:=λR r=> h _ λp g f c b=>⟨(by show 1<=PK; decide),λq a=>r q _ _ (c.free a) (c.trans (ah.new a _)) aq (by unfold aJ;refine⟨_,_,rfl,g4.mpr ⟨p,rfl,ay.of ?_⟩,by unfold aJ; rfl⟩;have e:p≠q:=aS b a;rw[je e,aD e];exact b)⟩
theorem Aa (x:Gd K o σ H f)(s:∀H',ah H H'->Gd K i σ H' es)(hz:f.length+es.length<=PK):Gd K (cT Em o i) σ H (f++es):=λR r=> x _ λa u m y e g j=>s u e _ λb n p v c h l=>by refine⟨a,b,m,p,rfl,rfl,c _ _ g,h,by rw[j.length,l.length]; exact hz,λq d=>?_⟩;have k:ah n (Hm q (upd n q (.lst (m++p)))):=(ah.new d _).into d;exact r q _ _ ((e.trans c).free d) ((e.trans c).trans (ah.new d _)) aq (aJ.append (j.same (jw.trans (c.trans k))) (l.same (jw.trans k)))
theorem Fl {k:Nat}(j:Gn g σ H xs)(h:∀H',ah H H'->Gv f σ H' (.int k))(m:k<=1000)(hz:xs.length * k<=1000):Gn (cT Ny g f) σ H (replicate k xs).flatten:=λR r=> j _ λa i l b d=>h i b _ λn c=>⟨a,k,xs,rfl,rfl,c _ _ d,by simp,by lia,by rw[zA3]; exact small hz,λq e=>by have:=r q _ ((b.trans c).free e) ((b.trans c).trans (ah.new e _)) aq;rw[zA3];exact this⟩
theorem Rz (h:Ga b σ H [.ref p])(d:ay K H p ys):Gn (oN (λxs H Q=>∃p ys,xs=[.ref p]/\(ay K H p ys\/aG K H p ys)/\∀l,H l=none->Q (.ref l) (upd H l (.lst ys))) b) σ H ys:=λR r=> h _ λe a=>⟨p,ys,rfl,.inl (a.seq d),λl c=>r l _ (a.free c) (a.trans (ah.new c _)) aq⟩
theorem v8 (k:Nat)(i:Int):(replicate k [V.int i]).flatten=(replicate k i).map V.int:=by induction k with| zero=>rfl| succ k a=>rw[List.replicate_succ,List.flatten_cons,a,List.replicate_succ]; rfl
theorem Bm {b:TA}{g:TG}{c:TS}{D:Ends}{σ:L2.St}{H:Hp}{n:Nat}(h:Ga b σ H [.int (n:Int)])(q:n<=1000)(a:Nat->L2.St->Hp->Prop)(l:∀H',ah H H'->a 0 σ H')(m:∀i σ H,i < n->a i σ H->g (.int (i:Int)) σ H λe j=>c { D with nx:=a (i+1),ct:=a (i+1),bk:=D.nx } e j) (o:∀σ H,a n σ H->D.nx σ H):lS (xy b) g c D σ H:= h _ λH' f=>⟨(n:Int),rfl,by simp,by lia,BY (n:=(n:Int).toNat) a (l H' f) (λi σ H d p=>by rw[zA3] at d;rw[zero_add];exact m i σ H d p) fun σ H p=>by rw[zA3] at p; exact o σ H p⟩
theorem lJ {c:TA}{g:TG}{b us:TS}{D:Ends}{σ:L2.St}{H:Hp}{n:Nat}(h:Ga c σ H [.int (n:Int)])(f:n<=1000)(a:Nat->L2.St->Hp->Prop)(k:∀H',ah H H'->a 0 σ H')(l:∀i σ H,i < n->a i σ H->g (.int (i:Int)) σ H λe d=>b { D with nx:=a (i+1),ct:=a (i+1),bk:=us D } e d) (m:∀σ H,a n σ H->us D σ H):eY (lS (xy c) g b) us D σ H:= Bm (D:={ D with nx:=us D }) h f a k l m
noncomputable def cJ (a:zzB):Nat:=(a.headD []).length
noncomputable def iw (a:zzB):List Int:=replicate (cJ a+2) (-1)
noncomputable def aT (a:zzB):zzB:=[iw a]++a.map (λr=>[-1]++r++[-1])++[iw a]
noncomputable def d8 (b:zzB)(y x:Nat):List Int:=[(b.getD y []).getD x 0,(b.getD y []).getD (x+1) 0,(b.getD (y+1) []).getD x 0,(b.getD (y+1) []).getD (x+1) 0]
noncomputable def fL (a:zzB)(y:Nat):zzB:=(range (cJ a+1)).map (d8 (aT a) y)
noncomputable def gx (a:zzB):zzB:=(range (a.length+1)).flatMap (fL a)
theorem qi (a:zzB):(aT a).length=a.length+2:=by unfold aT; simp
theorem qj (e:∀r∈a,r.length=cJ a)(d:y < a.length+2):((aT a).getD y []).length=cJ a+2:=by
 have b:(aT a).getD y []∈aT a:=by rw[y2,y8 (by rw[qi]; exact d)];exact zCa _
 generalize (aT a).getD y []=z at b;unfold aT iw at b;simp only [w8,wP,xL] at b;rcases b with (rfl | ⟨r,c,rfl⟩) | rfl;·simp
 ·have:=e r c;simp;symm
 ·simp
theorem qk (a:zzB):∀i,((range i).flatMap (fL a)).length=i * (cJ a+1)| 0=>by simp| i+1=>by rw[zA2,List.flatMap_append,zAf,qk a i,zBc];simp [fL]
theorem Fp {b:TA}{σ:L2.St}{H:Hp}{vs:List V}{R:List V->Hp->Prop}(h:Ga b σ H vs)(hz:vs.length<=PK)(k:∀a p,ah H a->a p=none->R [.ref p] (upd a p (.tup vs))):cA (vF b) dR σ H R:=h _ λa d=>⟨hz,λp c=>k a p d c⟩
inductive yT (K:zzA)(vs:List V)(H:Hp)(Q:VK)(E_:XK):Prop| mk (a:M1) (rows:zzB):vs=[.ref a]->Rep K H (.lst (rows.map bV)) (.ref a)->rows≠[]->(∀r∈rows,r.length=cJ rows)->rows.length<=20->cJ rows<=20->(∀(F:M1) (H':Hp) (ws:List V),H F=none->ah H H'->H' F=some (.lst ws)->aJ K (Hm F H') ((gx rows).map tupI) ws->Q (.ref F) H')->yT K vs H Q E_
theorem uD {r:List Int}(h:x < r.length):g6 (r.map V.int) (x:Int)=some (.int (r.getD x 0)):=bL (by simp [y2,h])
theorem gD:aN ["_law_rows","_law_wide","_law_some","_law_found","_law_y","_law_x"] ["_law_rows"] (aE jC):=cI
theorem C9 (T:Txt K mg t):aL P w K mg base bg 1 t.qb t.jI ["_law_rows"] (yT K):=by
 refine T._law_tiles.fn.ok gD (λvs H Q E h=>?_) (λcdv A outer s H vs Q E hr h=>?_)
 ·obtain⟨a,u,rfl,_⟩:=h;rfl
 obtain⟨a,u,rfl,U,hne,q,B,Fq,kk⟩:=h;unfold Rep at U;obtain⟨a',xs,e,hq,o⟩:=U;cases e;have Ir:xs.length=u.length:=by rw[o.length,yB]
 refine⟨_,(aj (bh 1 gD.nd (aC aU (aH (dB K) (by rfl) T.cg zA1 (af (aI (cO K) (pv 0) ao (λ_ _=>rfl)) ai)) ao)) (aj (bh 2 gD.nd (aC jq (aC jq (bH (af (aC zI (bH (af (eF cY ao) ai)) (pv 1)) ai)) (gg ["_law_row"] [none] (dD K (pv 0)) (λ_ _ _ _ nd=>⟨(bu 0 nd),bT,(aC jq (aC jq (bH (af (eF cY ao) ai)) (gM (Pg K) (by rfl) T.LP boot_list (af (pv 0) ai))) (bH (af (eF cY ao) ai)))⟩))) (bH (af (aC zI (bH (af (eF cY ao) ai)) (pv 1)) ai)))) (aj (bh 3 gD.nd (bH ai)) (aj (cS zAl rfl (bP rfl T.cH (af (aC cX (aH (dB K) (by rfl) T.cg zA1 (af (pv 2) ai)) ao) ai)) (bu 4 gD.nd) (av (cS zAl rfl (bP rfl T.cH (af (aC cX (pv 1) ao) ai)) (bu 5 gD.nd) (av (cU (mX K zAo zAq zAr dh (pv 3) (af (bw (af (aI (cO K) (aI (cO K) (pv 2) (pv 4) (λ_ _=>rfl)) (pv 5) (λ_ _=>rfl)) (af (aI (cO K) (aI (cO K) (pv 2) (pv 4) (λ_ _=>rfl)) (aC aU (pv 5) ao) (λ_ _=>rfl)) (af (aI (cO K) (aI (cO K) (pv 2) (aC aU (pv 4) ao) (λ_ _=>rfl)) (pv 5) (λ_ _=>rfl)) (af (aI (cO K) (aI (cO K) (pv 2) (aC aU (pv 4) ao) (λ_ _=>rfl)) (aC aU (pv 5) ao) (λ_ _=>rfl)) ai))))) ai))))))) (av (aK (pv 3))))))),?_⟩;refine hold λP_2 k_2=>?_;obtain⟨g,f,rfl⟩:∃g f,u=g::f:=by cases u with| nil=>exact absurd rfl hne| cons g f=>exact⟨g,f,rfl⟩
 obtain⟨v0,hv0,hr0⟩:=o.get 0 (bV g) rfl;obtain⟨b0,rfl,hb0⟩:=g4.mp hr0;refine k_2 ?_;refine eL (aR (aO (f6 (K:=K) (aA (f_ (K:=K) (aa (by rfl)) (λ_ _=>az) hq (bL (j:=0) hv0))) hb0) λ_ _=>az) (y:=.int ((cJ (g::f)+2:Nat):Int)) (by rw[yB]; rfl)) λH1 s1=>?_;have M:∀{σ:L2.St} {k:Hp},Gv (zB (rU λi=>.int (-i)) (tC (.int 1))) σ k (.int (-1)):=nW az;have L:∀{σ:L2.St} {k:Hp},σ[1]?=some (some (V.int ((cJ (g::f)+2:Nat):Int)))->Gn (cT Ny (A0 (cA (zB (rU λi=>.int (-i)) (tC (.int 1))) dR)) (cF 1)) σ k ((iw (g::f)).map V.int):=λh1=> Ph (Fl (ju (aA M) (by show 1<=PK; decide)) (λ_ _=>aa h1) (by lia) (by simp; lia)) (v8 _ _);have hmid:(g::f).map (λr=>bV ([-1]++r++[-1]))=(range xs.length).map λi=>bV ([-1]++(g::f).getD i []++[-1]):=by
  rw[Ir];refine zCb (by grind) λi h1 h2=>?_;have hi:i < (g::f).length:=by simpa using h1
  rw[List.getElem_map,List.getElem_map,List.getElem_range,y2,y8 hi];rfl
 refine aP (PL (K:=K) (Aa (Aa (LQ (L (by rfl))) (λH2 s2=>(show Gd K _ _ H2 ((g::f).map λr=>bV ([-1]++r++[-1])) from λR r=>?_)) (small (by simp at B ⊢; lia))) (λH2 s2=>LQ (L (by rfl))) (small (by simp at B ⊢; lia))) λS H2 ws hS s2 zV rS=>?_)
 ·refine lW (K:=K) (aa (by rfl)) ((s1.trans s2).seq hq) λO C LR=>?_;refine oE (λi=>bV ([-1]++(g::f).getD i []++[-1])) LR (small (by lia)) (λD i x H5 R5 hD UJ hx I k5=>?_) λD H5 ys hD I v9 rep=>r D H5 ys (C.free hD) (C.trans I) v9 (by rw[hmid]; exact rep);obtain⟨d,hd,hdx⟩:=o.at_ i x hx;obtain⟨X,hr',hrl⟩:∃X,(g::f)[i]?=some X/\d=bV X:=by rw[v3] at hd;cases e:(g::f)[i]? with| none=>rw[e] at hd; cases hd| some X=>rw[e] at hd; exact⟨X,rfl,(zAy hd).symm⟩
  subst hrl;obtain⟨b,rfl,hb⟩:=g4.mp hdx;have hgd:(g::f).getD i []=X:=by rw[y2,hr']; rfl
  have hrw:X.length<=20:=by rw[q X (j1 hr')]; exact Fq
  refine JR (A_ (A_ (ju (aA M) (by show 1<=PK; decide)) (λH6 Z=>Rz (K:=K) (aA (aa (by rfl))) ((s1.trans (s2.trans (C.trans (I.trans Z)))).seq hb)) (small (by simp; lia))) (λH6 Z=>ju (aA M) (by show 1<=PK; decide)) (small (by simp; lia))) λp H6 hp Z hl=>?_;refine k5 _ H6 Z (g4.mpr ⟨p,rfl,ay.of ?_⟩);have ne:p≠D:=λz=>by obtain⟨ys,hys⟩:=UJ;rw[z,hys] at hp;cases hp
  rw[je ne,hl,hgd];simp
 have s02:=s1.trans s2;have l:∀{k:Hp},ah H2 k->∀y,y < f.length+3->∃c,ws[y]?=some (.ref c)/\ay K k c (((aT (g::f)).getD y []).map V.int):=λ{k} sx y hy=>by
  have hy':y < (aT (g::f)).length:=by rw[qi]; simpa using hy
  have e:([bV (iw (g::f))]++(g::f).map (λr=>bV ([-1]++r++[-1]))++[bV (iw (g::f))])=(aT (g::f)).map bV:=by unfold aT;rw[v4,v4,zAa];rfl
  rw[e] at rS;obtain⟨v,hv,hr⟩:=rS.get y (bV ((aT (g::f)).getD y [])) (by rw[v3,y2,y8 hy']; rfl);obtain⟨c,rfl,hc⟩:=g4.mp hr;exact⟨c,hv,(jw.trans sx).seq hc⟩
 have hwl:ws.length=f.length+3:=by rw[rS.length];simp
 refine aP ⟨(by show 0<=PK; decide),λF hF=>?_⟩;refine lJ (n:=f.length+2) (aA (aR (aO (f6 (K:=K) (aA (aa (by rfl))) (ay.of (ah.new hF _ _ _ zV))) λ_ _=>az) (by rw[hwl]; congr 1; lia))) (by simp at B; lia) (λi σ H3=>∃(e4 W:Option V) (G:List V),σ=[some (.ref a),some (.int ((cJ (g::f)+2:Nat):Int)),some (.ref S),some (.ref F),e4,W]/\ah H2 H3/\H3 F=some (.lst G)/\aJ K (Hm F H3) (((range i).flatMap (fL (g::f))).map tupI) G) (λH3 s3=>⟨none,none,[],rfl,(ah.new hF _).trans s3,s3 _ _ aq,by show aJ K _ [] []; unfold aJ; rfl⟩) ?_ ?_
 ·rintro i σ H3 hi ⟨e4,W,G,rfl,s3,UK,Y⟩;refine Bm (n:=cJ (g::f)+1) (aA (aR (aO (aa (by rfl)) λ_ _=>az) (by congr 1; lia))) (by lia) (λj σ O=>∃(W:Option V) (G:List V),σ=[some (.ref a),some (.int ((cJ (g::f)+2:Nat):Int)),some (.ref S),some (.ref F),some (.int (i:Int)),W]/\ah H2 O/\O F=some (.lst G)/\aJ K (Hm F O) ((((range i).flatMap (fL (g::f)))++(range j).map (d8 (aT (g::f)) i)).map tupI) G) (λO C=>⟨W,G,rfl,s3.trans C,C _ _ UK,by simpa using Y.same C.hm⟩) ?_ ?_
  ·rintro j σ O hj ⟨W,G,rfl,C,J,N⟩;refine hold λZ0 TM=>?_;obtain⟨c1,hc1,q1⟩:=l C i (by lia);obtain⟨c2,hc2,q2⟩:=l C (i+1) (by ext);refine TM ?_;have l1:=qj q (y:=i) (by simp; lia);have l2:=qj q (y:=i+1) (by simp; symm);have it:∀{σ:L2.St} {k:Hp} {tb tc:TE} {y x:Nat} {c:M1},σ[2]?=some (some (V.ref S))->ah O k->ws[y]?=some (.ref c)->ay K O c (((aT (g::f)).getD y []).map V.int)->x < ((aT (g::f)).getD y []).length->(∀m,ah k m->Gv tb σ m (.int (y:Int)))->(∀m,ah k m->Gv tc σ m (.int (x:Int)))-> Gv (cT (oq K) (cT (oq K) (cF 2) tb) tc) σ k (.int (((aT (g::f)).getD y []).getD x 0)):=λh2 sx hw hc hx hb UL=> f_ (K:=K) (f_ (K:=K) (aa h2) hb (ay.of ((C.trans sx) _ _ zV)) (bL hw)) UL (sx.seq hc) (uD hx);have vy:∀{σ:L2.St} {k:Hp},σ[4]?=some (some (V.int (i:Int)))->∀m,ah k m->Gv (cF 4) σ m (.int (i:Int)):=λh _ _=>aa h;have vx:∀{σ:L2.St} {k:Hp},σ[5]?=some (some (V.int (j:Int)))->∀m,ah k m->Gv (cF 5) σ m (.int (j:Int)):=λh _ _=>aa h;have vy1:∀{σ:L2.St} {k:Hp},σ[4]?=some (some (V.int (i:Int)))->∀m,ah k m->Gv (cT (oM λi j=>.int (i+j)) (cF 4) (tC (.int 1))) σ m (.int ((i+1:Nat):Int)):=λh _ _=>aR (aO (aa h) λ_ _=>az) rfl;have vx1:∀{σ:L2.St} {k:Hp},σ[5]?=some (some (V.int (j:Int)))->∀m,ah k m->Gv (cT (oM λi j=>.int (i+j)) (cF 5) (tC (.int 1))) σ m (.int ((j+1:Nat):Int)):=λh _ _=>aR (aO (aa h) λ_ _=>az) rfl;refine⟨_,rfl,.inl ⟨rfl,_,ay.of J⟩,?_⟩;refine Fp (au (it (y:=i) (x:=j) rfl (ah.refl _) hc1 q1 (by lia) (vy rfl) (vx rfl)) λH5 I=>au (it (y:=i) (x:=j+1) rfl I hc1 q1 (by lia) (vy rfl) (vx1 rfl)) λH6 Z=>au (it (y:=i+1) (x:=j) rfl (I.trans Z) hc2 q2 (by lia) (vy1 rfl) (vx rfl)) λH7 s7=>aA (it (y:=i+1) (x:=j+1) rfl (I.trans (Z.trans s7)) hc2 q2 (by lia) (vy1 rfl) (vx1 rfl))) (by show 4<=PK; decide) λH5 p I hp=>?_;have sp:=ah.new hp (.tup [V.int (((aT (g::f)).getD i []).getD j 0),.int (((aT (g::f)).getD i []).getD (j+1) 0),.int (((aT (g::f)).getD (i+1) []).getD j 0),.int (((aT (g::f)).getD (i+1) []).getD (j+1) 0)]);have Z_:=sp _ _ (I _ _ J);refine⟨F,G,_,rfl,rfl,Z_,?_,?_⟩
   ·rw[N.length];refine zCc (show _<=1000 from ?_) (by decide);have hfl:=qk (g::f) i;simp only [yB,zAf,zBn];have:i * (cJ (g::f)+1)<=22 * 21:=Nat.mul_le_mul (by simp at B; lia) (by lia);lia
   ·refine⟨_,G++[.ref p],rfl,(C.trans (I.trans sp)).put hF _,aq,?_⟩;have ne:p≠F:=λz=>by rw[z,I _ _ J] at hp; cases hp
    have e:(((range i).flatMap (fL (g::f)))++(range (j+1)).map (d8 (aT (g::f)) i)).map tupI=(((range i).flatMap (fL (g::f)))++(range j).map (d8 (aT (g::f)) i)).map tupI++[tupI (d8 (aT (g::f)) i j)]:=by simp [zA2]
    rw[e];refine aJ.snoc (gZ.mpr ⟨p,rfl,aG.of ?_⟩) (N.same ((I.trans sp).pP _));rw[je ne,aD ne,aq];rfl
  ·rintro σ O ⟨W,G,rfl,C,J,N⟩;refine⟨_,_,G,rfl,C,J,?_⟩;rw[zA2,List.flatMap_append];simpa [fL] using N
 ·rintro σ H3 ⟨e4,W,G,rfl,s3,UK,Y⟩;refine⟨_,rfl,kk F H3 G (s02.free hF) (s02.trans s3) UK ?_⟩;unfold gx;exact Y
end
noncomputable def Bo:zzB:=[[-1,-1,-1,0],[-1,-1,-1,1],[-1,-1,-1,2],[-1,-1,0,-1],[-1,-1,1,-1],[-1,-1,2,-1],[-1,0,-1,-1],[-1,1,-1,-1],[-1,2,-1,-1],[0,-1,-1,-1],[1,-1,-1,-1],[2,-1,-1,-1]]
noncomputable def iy (t:List Int):Bool:=!Bo.contains t
noncomputable def fk (n:Nat)(t:List Int):Prop:=t.length=4/\∀f∈t,-1<=f/\f < n
structure Sys (m:Nat)(x:Str)(ts:zzB):Prop where
 pos:1<=x.length
 most:x.length<=m
 ab:∀c∈x.cps.toList,c=97\/c=98
 ok:∀t∈ts,fk x.length t
 up:ts.Pairwise λa b=>HT.lexLt a b=true
 few:ts.countP iy<=39
structure DE (n:Nat)(rows:zzB):Prop where
 ne:rows≠[]
 high:rows.length<=3
 wide:1<=cJ rows/\cJ rows<=3
 N8:∀r∈rows,r.length=cJ rows
 Xp:∀r∈rows,∀f∈r,0<=f/\f < n
theorem LS (a:zzB):(aT a).getD 0 []=iw a:=rfl
theorem Ft (a:zzB)(h:i < a.length):(aT a).getD (i+1) []=[-1]++a.getD i []++[-1]:=by unfold aT;grind
theorem Cn (a:zzB):(aT a).getD (a.length+1) []=iw a:=by unfold aT;simp
theorem lK (a:zzB)(h:x < cJ a+2):(iw a).getD x 0=-1:=by unfold iw;ext
theorem PM (r:List Int):([-1]++r++[-1]:List Int).getD 0 0=-1:=rfl
theorem N9 (r:List Int):([-1]++r++[-1]:List Int).getD (r.length+1) 0=-1:=by simp
theorem getD_mem {α:Type}{l:List α}{d:α}(h:i < l.length):l.getD i d∈l:=by ext
section
variable {n:Nat}{rows:zzB}
theorem RB (h:DE n rows)(d:y < rows.length+2)(i:x < cJ rows+2):-1<=((aT rows).getD y []).getD x 0/\((aT rows).getD y []).getD x 0 < n:=by
 have b:(aT rows).getD y []∈aT rows:=getD_mem (by rw[qi]; symm);have g:=qj h.N8 d;have a:((aT rows).getD y []).getD x 0∈(aT rows).getD y []:=getD_mem (by ext);generalize ((aT rows).getD y []).getD x 0=f at *;generalize (aT rows).getD y []=z at *;unfold aT iw at b;simp only [w8,wP,xL] at b;rcases b with (rfl | ⟨r,c,rfl⟩) | rfl;·grind
 ·simp only [w8,wP] at a;rcases a with (e | e) | e;·lia
  ·have:=h.Xp r c f e; lia
  ·lia
 ·have:=List.eq_of_mem_replicate a; lia
theorem RC (h:DE n rows):∀t∈gx rows,fk n t:=by intro t a;obtain⟨y,c,a⟩:=List.mem_flatMap.mp a;obtain⟨x,d,rfl⟩:=xL.mp a;refine⟨rfl,λf b=>?_⟩;unfold d8 at b;ext;rcases b with e | e | e | e <;> rw[e] <;> exact RB h (by lia) (by lia)
theorem three {a:Int}(d:0<=a)(c:a < n)(b:n<=3):a=0\/a=1\/a=2:=by lia
theorem Ab {α:Type}{p:α->Bool}{f:Nat->α}{w:Nat}(b:1<=w)(c:p (f 0)=false)(a:p (f w)=false):((range (w+1)).map f).countP p<=w - 1:=by obtain⟨v,rfl⟩:∃v,w=v+1:=⟨w - 1,by ext⟩;rw[zA2,List.range_succ_eq_map];have:=List.countP_le_length (p:=p) (l:=(List.map Nat.succ (range v)).map f);ext
theorem J_ {α:Type}{p:α->Bool}{g:Nat->List α}{h B0 B:Nat}(b:1<=h)(e:(g 0).countP p<=B0)(ch:(g h).countP p<=B0)(c:∀y,(g y).countP p<=B):((range (h+1)).flatMap g).countP p<=2 * B0+(h - 1) * B:=by
 obtain⟨v,rfl⟩:∃v,h=v+1:=⟨h - 1,by ext⟩;have a:∀l:List Nat,(l.flatMap g).countP p<=l.length * B:=λl=>by induction l with| nil=>simp| cons y l d=> rw[zBw];grind
 rw[zA2,List.range_succ_eq_map];grind
theorem N_ (k:n<=3)(h:DE n rows):(gx rows).countP iy<=12/\(gx rows).length<=16:=by
 obtain⟨f,m,rfl⟩:∃f m,rows=f::m:=by cases rows with| nil=>exact absurd rfl h.ne| cons f m=>simp
 have D:=h.wide;have I:=h.high;generalize z:f::m=rows at *;have c:1<=rows.length:=by grind
 have b:∀i,i < rows.length->(rows.getD i []).length=cJ rows/\∀j,j < cJ rows->0<=(rows.getD i []).getD j 0/\(rows.getD i []).getD j 0 < n:=λi G=>by have u:rows.getD i []∈rows:=getD_mem G;have F:=h.N8 _ u;exact⟨F,λj H=>h.Xp _ u _ (by ext)⟩
 obtain⟨t,d⟩:=b 0 ‹_›;obtain⟨q,o⟩:=b (rows.length - 1) (by lia);have J:cJ rows=(cJ rows - 1)+1:=by ext
 have A:(aT rows).getD 1 []=[-1]++rows.getD 0 []++[-1]:=Ft rows (i:=0) ‹_›;have C:(aT rows).getD rows.length []=[-1]++rows.getD (rows.length - 1) []++[-1]:=by have:=Ft rows (i:=rows.length - 1) (by lia);grind
 have a:∀r:List Int,r.length=cJ rows->([-1]++r++[-1]:List Int).getD 1 0=r.getD 0 0/\([-1]++r++[-1]:List Int).getD (cJ rows) 0=r.getD (cJ rows - 1) 0/\([-1]++r++[-1]:List Int).getD (cJ rows+1) 0=-1:=λr E=>by
  refine⟨(by grind),?_,?_⟩;·grind
  ·rw[<-E]; exact N9 r
 have x:iy (d8 (aT rows) 0 0)=false:=by unfold d8;rw[LS,A,lK rows (by simp),lK rows (by simp),PM,(a _ t).1];rcases three (d 0 (by lia)).1 (d 0 (by lia)).2 k with e | e | e <;> rw[e] <;> rfl
 have v:iy (d8 (aT rows) 0 (cJ rows))=false:=by unfold d8;rw[LS,A,lK rows (by simp),lK rows (by simp),(a _ t).2.1,(a _ t).2.2];rcases three (d (cJ rows - 1) (by lia)).1 (d (cJ rows - 1) (by lia)).2 k with e | e | e <;> rw[e] <;> rfl
 have w:iy (d8 (aT rows) rows.length 0)=false:=by unfold d8;rw[Cn,C,lK rows (by simp),lK rows (by simp),PM,(a _ q).1];rcases three (o 0 (by lia)).1 (o 0 (by lia)).2 k with e | e | e <;> rw[e] <;> rfl
 have s:iy (d8 (aT rows) rows.length (cJ rows))=false:=by unfold d8;rw[Cn,C,lK rows (by simp),lK rows (by simp),(a _ q).2.1,(a _ q).2.2];rcases three (o (cJ rows - 1) (by lia)).1 (o (cJ rows - 1) (by lia)).2 k with e | e | e <;> rw[e] <;> rfl
 constructor
 ·have:=J_ (p:=iy) (g:=fL rows) c (B0:=cJ rows - 1) (B:=cJ rows+1) (Ab D.1 x v) (Ab D.1 w s) λy=>by have:=List.countP_le_length (p:=iy) (l:=fL rows y);simpa [fL] using this
  have u:(rows.length - 1) * (cJ rows+1)<=2 * 4:=Nat.mul_le_mul (by lia) (by lia);unfold gx;lia
 ·unfold gx;rw[qk];exact Nat.mul_le_mul (show rows.length+1<=4 by lia) (show cJ rows+1<=4 by lia)
end
abbrev gy (c:Nat):Str:=⟨#[c]⟩
theorem yU:∀cs:List Nat,((cs.map gy).map (·.length)).sum=cs.length| []=>rfl| c::cs=>by rw[zAw,zAw,List.sum_cons,yU cs,zBw];show 1+_=_;lia
theorem Co:∀(cs:List Nat) (a:Array Nat),((cs.map gy).foldl (λa p=>a++("":Str).cps++p.cps) a).toList=a.toList++cs| [],a=>by simp| c::cs,a=>by rw[zAw,List.foldl_cons,Co cs];show (a++#[]++#[c]).toList++cs=_;simp
theorem qm (cs:List Nat):(join "" (cs.map gy)).cps.toList=cs:=by cases cs with| nil=>rfl| cons c cs=> show ((cs.map gy).foldl (λa p=>a++("":Str).cps++p.cps) (gy c).cps).toList=c::cs;rw[Co];rfl
section
variable {P:zAA}{w:zAE}{K:zzA}{mg:Str->Option Value}{base:Heap}{t:Ad}
theorem Cp {α β:Type}(f:α->β):∀(l:List α) (i:Nat),(l.eraseIdx i).map f=(l.map f).eraseIdx i| [],i=>rfl| x::a,0=>rfl| x::a,i+1=>by show f x::(a.eraseIdx i).map f=f x::(a.map f).eraseIdx i;rw[Cp f a i]
theorem RD {a:TE}{σ:L2.St}{H:Hp}{r:List V->Hp->VK->Prop}{R:List V->Hp->Prop}(h:a σ H λx b=>r [x] b λy c=>R [y] c):cA (oN r (cA a dR)) dR σ H R:=h
theorem WS {a:TE}{σ:L2.St}{H:Hp}{v:V}{R:List V->Hp->Prop}(h:Gv a σ H v)(k:∀b,ah H b->R [v] b):cA a dR σ H R:=(aA h) _ k
structure TL (K:zzA)(n:Nat)(H0 H:Hp)(T:M1)(ts:zzB)(us:List V)(b l:Nat):Prop where
 same:ah H0 H
 new:H0 T=none
 at_:H T=some (.lst us)
 reps:aJ K (Hm T H) (ts.map tupI) us
 ok:∀t∈ts,fk n t
 cnt:ts.countP iy<=b
 len:ts.length<=l
theorem TL.more (h:TL K n a H T ts us b l)(s:ah H H'):TL K n a H' T ts us b l:=⟨h.same.trans s,h.new,s _ _ h.at_,h.reps.same s.hm,h.ok,h.cnt,h.len⟩
theorem TL.Ac (h:TL K n a H T ts us b l):us.length=ts.length:=by rw[h.reps.length,yB]
inductive v_ (K:zzA)(vs:List V)(H:Hp)(Q:VK)(E_:XK):Prop| mk (a:M1) (ns:List Int) (k:Int) (m:Nat):vs=[.ref a,.int k,.int m]->ay K H a (ns.map V.int)->ns.length<=63->1<=m->m<=3->(∀(r T:M1) (H':Hp) (x:Str) (ts:zzB) (ws:List V),H r=none->H T=none->ah H H'->H' r=some (.tup [.str x,.ref T])->H' T=some (.lst ws)->aJ K H' (ts.map tupI) ws->Sys m x ts->Q (.ref r) H')->v_ K vs H Q E_
theorem i8 (g:ay K H a (ns.map V.int))(e:ns.length<=63)(h:ah H b)(f:Ga c σ b [.ref a,.int k]):Gv (oW (tH K) [] E c) σ b (.int (mix ns k)):= eB f λj R s d=>⟨a,ns,_,rfl,(h.trans s).seq g,e,d⟩
theorem bN:aN ["_law_script","_law_k","_law_marks","_law_many","_law_letters","_law_tiles_here","_law_j","_law_high","_law_wide","_law_rows","_law_y","_law_number"] ["_law_script","_law_k","_law_marks"] (aE iZ):=cI
theorem Bp (T:Txt K mg t):aL P w K mg base bg 4 t.oF t.i6 ["_law_script","_law_k","_law_marks"] (v_ K):=by
 have b:aL P w K mg base bg 2 t.mz t.iJ ["_law_script","_law_k"] (tH K):=rR T;have B:aL P w K mg base bg 1 t.qb t.jI ["_law_rows"] (yT K):=C9 T;refine T._law_system.fn.ok bN (λvs H Q E h=>?_) (λcdv A outer s H vs Q E I h=>?_)
 ·obtain⟨a,G,k,m,rfl,_⟩:=h;rfl
 obtain⟨a,G,k,m,rfl,hS,hl,hm1,hm3,kk⟩:=h;refine⟨_,(aj (bh 3 bN.nd (aC aU ao (aC eK (cD T._law_mix b I aM (af (pv 0) (af (pv 1) ai))) (pv 2)))) (aj (bh 4 bN.nd (mX K plainAttrs_str slot_str_join type_str_join (Dr K) nN (af (gg ["_law_j","_law_script","_law_k"] [none,some 0,some 1] (bP rfl T.cH (af (pv 3) ai)) (λ_ _ _ _ Y=>⟨(bu 0 Y),bT,(aI lU nN (aC eK (aC pA (cD T._law_mix b I aM (af (pv 1) (af (aC aU (aC aU (pv 2) ao) (pv 0)) ai))) ao) ao) (λ_ _=>rfl))⟩)) ai))) (aj (bh 5 bN.nd (bH ai)) (aj (cS zAl rfl (bP rfl T.cH (af (aC aU ao (aC eK (cD T._law_mix b I aM (af (pv 0) (af (aC aU (pv 1) ao) ai))) ao)) ai)) (bu 6 bN.nd) (aj (bh 7 bN.nd (aC aU ao (aC eK (cD T._law_mix b I aM (af (pv 0) (af (aC aU (aC aU (pv 1) ao) (aC lT ao (pv 6))) ai))) ao))) (aj (bh 8 bN.nd (aC aU ao (aC eK (cD T._law_mix b I aM (af (pv 0) (af (aC aU (aC aU (pv 1) ao) (aC lT ao (pv 6))) ai))) ao))) (aj (bh 9 bN.nd (bH ai)) (aj (cS zAl rfl (bP rfl T.cH (af (pv 7) ai)) (bu 10 bN.nd) (av (cU (mX K zAo zAq zAr dh (pv 9) (af (gg ["_law_x","_law_script","_law_k","_law_j","_law_y","_law_many"] [none,some 0,some 1,some 6,some 10,some 3] (bP rfl T.cH (af (pv 8) ai)) (λ_ _ _ _ Y=>⟨(bu 0 Y),bT,(aC eK (aC pA (cD T._law_mix b I aM (af (pv 1) (af (aC aU (aC aU (aC aU (aC aU (pv 2) ao) (aC lT ao (pv 3))) (aC lT ao (pv 4))) (pv 0)) ai))) ao) (pv 5))⟩)) ai))))) (av (bh 5 bN.nd (aC jq (pv 5) (cD T._law_tiles B I aM (af (pv 9) ai)))))))))) (aj (cS zAl rfl (bP rfl T.cH (af (aC eK (cD T._law_mix b I aM (af (pv 0) (af (aC aU (pv 1) ao) ai))) ao) ai)) (bu 6 bN.nd) (aj (bh 11 bN.nd (cD T._law_mix b I aM (af (pv 0) (af (aC aU (aC aU (pv 1) ao) (pv 6)) ai)))) (av (bG (PW.pt (KP (a_ dQ (aC eK (pv 11) ao) ao (iV _)) (HV (vO K (pv 5) (λ_=>rfl))))) (av (cU (mX K zAo PySem.F.slot_list_pop PySem.F.type_list_pop Nx (pv 5) (af (aC eK (aC pA (pv 11) ao) (aH (dB K) (by rfl) T.cg zA1 (af (pv 5) ai))) ai)))) (av (cU (mX K zAo zAq zAr dh (pv 5) (af (gM (Lg K) (by rfl) T.Bk boot_tuple (af (gg ["_law_i","_law_number","_law_many"] [none,some 11,some 3] (bP rfl T.cH (af ao ai)) (λ_ _ _ _ Y=>⟨(bu 0 Y),bT,(aC cX (aC eK (aC pA (pv 1) (aI (cO K) (bH (af ao (af ao (af ao (af ao ai))))) (pv 0) (λ_ _=>rfl))) (aC aU (pv 2) ao)) ao)⟩)) ai)) ai)))))))) (av (aK (bw (af (pv 4) (af (aH (Ri K P w) (by rfl) T.qh zDA (af (gM (YW K P w I.units) (by rfl) T.WQ boot_set (af (pv 5) ai)) ai)) ai)))))))))),?_⟩;have hm0:=Fj G k;obtain⟨n,hn⟩:∃n:Nat,1+mix G k % (m:Int)=(n:Int):=⟨(1+mix G k % (m:Int)).toNat,by have:=zB7 (mix G k) (show (m:Int)≠0 by lia);lia⟩;have hn1:1<=n:=by have:=zB7 (mix G k) (show (m:Int)≠0 by lia);lia
 have hnm:n<=m:=by have:=zCr (mix G k) (show (0:Int) < m by lia);lia
 refine eL (aR (aO az λH1 s1=>bA (i8 hS hl s1 (au (aa (by rfl)) λ_ _=>aA (aa (by rfl)))) (λ_ _=>aa (by rfl)) (by show (0:Int) < m; lia)) (y:=.int (n:Int)) (zAz V.int hn)) λH1 s1=>?_;refine aP ⟨rfl,?_⟩;refine pO (aA (aa (by rfl))) (by simp) (by lia) λH2 s2=>?_;have s02:=s1.trans s2;refine eS (λj=>.str (gy (if mix G (k+1+(0+(j:Int))) / 4 % 2=0 then 97 else 98))) (small (by lia)) (λj H3 R hj s3 k3=>?_) λD H3 hD s3 v9=>?_
 ·have hmj:=Fj G (k+1+(0+(j:Int)));refine fN (nV az (λH4 s4=>bA (bA (i8 hS hl (s02.trans (s3.trans s4)) (au (aa (by rfl)) λ_ _=>aA (aO (aO (aa (by rfl)) λ_ _=>az) λ_ _=>aa (by rfl)))) (λ_ _=>az) ⟨by decide,by decide⟩) (λ_ _=>az) (by decide)) (by show 2<=PK; decide) ?_) λH4 s4=>k3 H4 s4;generalize mix G (k+1+(0+(j:Int))) / 4=z;rcases (show z % 2=0\/z % 2=1 by lia) with e | e <;> rw[e] <;> rfl
 generalize hcs:(range (n:Int).toNat).map (λ(j:Nat)=>(if mix G (k+1+(0+(j:Int))) / 4 % 2=0 then 97 else 98:Nat))=cs;have L:H3 D=some (.lst ((cs.map gy).map V.str)):=by rw[v9,<-hcs,zAa,zAa];rfl
 have hcl:cs.length=n:=by rw[<-hcs]; simp
 have hcab:∀c∈cs,c=97\/c=98:=λc hc=>by
  rw[<-hcs] at hc;obtain⟨j,_,rfl⟩:=xL.mp hc;split;·exact .inl rfl
  ·exact .inr rfl
 refine⟨"",D,cs.map gy,rfl,rfl,ay.of L,by rw[yU,yB]; show cs.length+cs.length * 0<=16777216; lia,?_⟩;have hxc:=qm cs;generalize join "" (cs.map gy)=x at *;have Ir:x.length=n:=by show x.cps.size=n;have:=zAz length hxc;simpa [hcl] using this
 have O:=s02.trans s3;refine aP ⟨(by show 0<=PK; decide),λT0 UM=>?_⟩;have Oa:∀z:Int,∃c:Nat,1+z % 3=(c:Int)/\1<=c/\c<=3:=λz=>⟨(1+z % 3).toNat,by lia,by lia,by lia⟩;obtain⟨c1,hc1,acQ,acR⟩:=Oa (mix G (k+6));have hsT:ah H (upd H3 T0 (.lst [])):=O.trans (ah.new UM _);refine lJ (n:=c1) (aA (aR (aO az λH4 s4=>bA (i8 hS hl (hsT.trans s4) (au (aa (by rfl)) λ_ _=>aA (aO (aa (by rfl)) λ_ _=>az))) (λ_ _=>az) (by decide)) (zAz V.int hc1))) (by grind) (λi σ H4=>∃(Z:M1) (g:List V) (N:zzB) (e6 e7 e8 e9 o M:Option V),σ=[some (.ref a),some (.int k),some (.int m),some (.int n),some (.str x),some (.ref Z),e6,e7,e8,e9,o,M]/\TL K n H3 H4 Z N g (12 * i) (16 * i)) (λH4 s4=>⟨T0,[],[],none,none,none,none,none,none,rfl,(ah.new UM _).trans s4,UM,s4 _ _ aq,by show aJ K _ [] []; unfold aJ; rfl,λt ht=>(by cases ht),y6 _,y6 _⟩) ?_ ?_
 ·rintro i σ H4 hi ⟨Z,g,N,e6,e7,e8,e9,o,M,rfl,L4⟩;have h04:=O.trans L4.same;refine hold λXq LU=>?_;obtain⟨hg,UN,hg1,hg3⟩:=Oa (mix G (k+7+30 * (i:Int)));obtain⟨wd,PN,wd1,wd3⟩:=Oa (mix G (k+8+30 * (i:Int)));refine LU ?_;refine eL (aR (aO az λH5 s5=>bA (i8 hS hl (h04.trans s5) (au (aa (by rfl)) λ_ _=>aA (aO (aO (aa (by rfl)) λ_ _=>az) λ_ _=>bA az (λ_ _=>aa (by rfl)) (.inl ⟨by decide,by decide⟩)))) (λ_ _=>az) (by decide)) (y:=.int (hg:Int)) (zAz V.int UN)) λH5 s5=>?_;refine eL (aR (aO az λH6 s6=>bA (i8 hS hl (h04.trans (s5.trans s6)) (au (aa (by rfl)) λ_ _=>aA (aO (aO (aa (by rfl)) λ_ _=>az) λ_ _=>bA az (λ_ _=>aa (by rfl)) (.inl ⟨by decide,by decide⟩)))) (λ_ _=>az) (by decide)) (y:=.int (wd:Int)) (zAz V.int PN)) λH6 s6=>?_;have L6:=L4.more (s5.trans s6);have h06:=O.trans L6.same;refine aP ⟨(by show 0<=PK; decide),λR hR=>?_⟩;refine lJ (n:=hg) (aA (aa (by rfl))) (by grind) (λy σ H7=>∃(d:zzB) (vs:List V) (o:Option V),σ=[some (.ref a),some (.int k),some (.int m),some (.int n),some (.str x),some (.ref Z),some (.int (i:Int)),some (.int (hg:Int)),some (.int (wd:Int)),some (.ref R),o,M]/\ah H6 H7/\H7 R=some (.lst vs)/\aJ K (Hm R H7) (d.map bV) vs/\d.length=y/\∀r∈d,r.length=wd/\∀f∈r,0<=f/\f < n) (λH7 U=>⟨[],[],_,rfl,(ah.new hR _).trans U,U _ _ aq,by show aJ K _ [] []; unfold aJ; rfl,rfl,λr I=>(by cases I)⟩) ?_ ?_
  ·rintro y σ H7 hy ⟨d,vs,o,rfl,U,LV,rR7,hrl,hrw⟩;refine⟨_,rfl,.inl ⟨rfl,_,ay.of LV⟩,?_⟩;refine pO (aA (aa (by rfl))) (by simp) (by grind) λH8 X=>?_;refine eS (λj=>.int (mix G (k+9+30 * (i:Int)+3 * (y:Int)+(0+(j:Int))) / 8 % n)) (small (by grind)) (λj H9 R' hj s9 k9=>?_) λD' H9 uZ s9 L=>?_;·exact fN (bA (bA (i8 hS hl (h06.trans (U.trans (X.trans s9))) (au (aa (by rfl)) λ_ _=>aA (aO (aO (aO (aO (aa (by rfl)) λ_ _=>az) λ_ _=>bA az (λ_ _=>aa (by rfl)) (.inl ⟨by decide,by decide⟩)) λ_ _=>bA az (λ_ _=>aa (by rfl)) (.inl ⟨by decide,by decide⟩)) λ_ _=>aa (by rfl)))) (λ_ _=>az) ⟨by decide,by decide⟩) (λ_ _=>aa (by rfl)) (by show (0:Int) < n; lia)) λCq s10=>k9 Cq s10
   generalize yV:(range (wd:Int).toNat).map (λ(j:Nat)=>mix G (k+9+30 * (i:Int)+3 * (y:Int)+(0+(j:Int))) / 8 % (n:Int))=row;have hDr:H9 D'=some (.lst (row.map V.int)):=by rw[L,<-yV,zAa]; rfl
   have WT:row.length=wd:=by rw[<-yV]; simp
   have WU:∀f∈row,0<=f/\f < n:=λf hf=>by rw[<-yV] at hf;obtain⟨j,_,rfl⟩:=xL.mp hf;exact⟨zB7 _ (by lia),zCr _ (by lia)⟩
   have W:=X.trans s9;have ne:D'≠R:=λz=>by rw[z] at uZ; rw[X _ _ LV] at uZ; cases uZ
   refine⟨R,vs,_,rfl,rfl,W _ _ LV,?_,d++[row],vs++[.ref D'],_,rfl,(U.trans W).put hR _,aq,?_,by simp [hrl],λr I=>?_⟩
   ·rw[rR7.length,yB];exact zCc (show d.length<=1000 by grind) (by decide)
   ·rw[v4];refine aJ.snoc (g4.mpr ⟨D',rfl,ay.of ?_⟩) (rR7.same (W.pP _));rw[je ne,aD ne];exact hDr
   ·rcases w8.mp I with z | z;·exact hrw r z
    ·rw[wP.mp z]; exact⟨WT,WU⟩
  ·rintro σ H7 ⟨d,vs,o,rfl,U,LV,rR7,hrl,hrw⟩;have hne:d≠[]:=λz=>by rw[z] at hrl; simp at hrl; lia
   have Fq:cJ d=wd:=by cases d with| nil=>exact absurd rfl hne| cons r0 rr=>exact (hrw r0 zAc).1
   have LW:DE n d:=⟨hne,by ext,by ext,λr I=>by rw[Fq]; exact (hrw r I).1,λr I=>(hrw r I).2⟩;have L7:=L6.more U;refine⟨_,rfl,iH (aA (aa (by rfl))) λH8 X=>⟨R,d,rfl,?_,hne,LW.N8,by grind,by grind,λF H9 ws hF s9 Cr rF=>?_⟩⟩
   ·unfold Rep;exact⟨R,vs,rfl,ay.of (X _ _ LV),rR7.same (jw.trans X)⟩
   ·have C:=L7.more (X.trans s9);obtain⟨g1,g2⟩:=N_ (by lia) LW;refine⟨Z,F,g,ws,rfl,rfl,C.at_,Cr,?_,λq hq=>?_⟩
    ·rw[C.Ac,rF.length,yB];have:=C.len;exact small (by lia)
    ·have sq:ah H9 (Hm q (upd H9 q (.lst (g++ws)))):=(ah.new hq _).into hq;refine⟨q,g++ws,N++gx d,_,_,_,_,_,_,rfl,C.same.trans (ah.new hq _),C.same.free hq,aq,?_,λt' ht=>?_,?_,?_⟩
     ·rw[v4];exact aJ.append (C.reps.same (jw.trans sq)) (rF.same (jw.trans sq))
     ·rcases w8.mp ht with z | z;·exact C.ok t' z
      ·exact RC LW t' z
     ·rw[List.countP_append];have:=C.cnt;lia
     ·rw[zAf];have:=C.len;lia
 ·rintro σ H4 ⟨Z,g,N,e6,e7,e8,e9,o,M,rfl,L4⟩;have h04:=O.trans L4.same;obtain⟨c2,hc2,acS⟩:∃c:Nat,mix G (k+100) % 4=(c:Int)/\c<=3:=⟨(mix G (k+100) % 4).toNat,by lia,by lia⟩;refine lJ (n:=c2) (aA (aR (bA (i8 hS hl h04 (au (aa (by rfl)) λ_ _=>aA (aO (aa (by rfl)) λ_ _=>az))) (λ_ _=>az) (by decide)) (zAz V.int hc2))) (by lia) (λj σ H5=>∃(g:List V) (N:zzB) (e6 e7 e8 e9 o M:Option V),σ=[some (.ref a),some (.int k),some (.int m),some (.int n),some (.str x),some (.ref Z),e6,e7,e8,e9,o,M]/\TL K n H3 H5 Z N g (36+j) (48+j)) (λH5 s5=>⟨g,N,_,_,_,_,_,_,rfl,by have J:=L4.more s5;have h1:=J.cnt;have h2:=J.len;exact⟨J.same,J.new,J.at_,J.reps,J.ok,by lia,by lia⟩⟩) ?_ ?_
  ·rintro j σ H5 hj ⟨g,N,e6,e7,e8,e9,o,M,rfl,J⟩;have h05:=O.trans J.same;refine eL (i8 hS hl h05 (au (aa (by rfl)) λ_ _=>aA (aO (aO (aa (by rfl)) λ_ _=>az) λ_ _=>aa (by rfl)))) λH6 s6=>?_;have hz0:=Fj G (k+101+(j:Int));generalize mix G (k+101+(j:Int))=z at *;have L6:=J.more s6;refine fc (Lc (bF (dz (bA (aa (by rfl)) (λ_ _=>az) (by decide)) (λ_ _=>az) (by rfl))) λ_ H7 U=>Cm (K:=K) (aa (by rfl)) (ay.of (U _ _ L6.at_))) (λc H7 U=>?_) λc H7 U=>?_
   ·have L7:=L6.more U;have hne:g≠[]:=λe=>by rw[e] at c; simp at c
    have hpos:0 < g.length:=List.length_pos_iff.mpr hne;have hm1:=zB7 (z / 4) (show (g.length:Int)≠0 by ext);have hm2:=zCr (z / 4) (show (0:Int) < g.length by ext);obtain⟨q,hq⟩:∃q:Nat,z / 4 % (g.length:Int)=(q:Int):=⟨(z / 4 % (g.length:Int)).toNat,by lia⟩;have Fv:q < g.length:=by ext
    refine⟨_,rfl,.inl ⟨rfl,_,ay.of L7.at_⟩,?_⟩;refine WS (v:=.int (q:Int)) (aR (bA (bA (aa (by rfl)) (λ_ _=>az) ⟨by decide,by decide⟩) (λH8 X=>f6 (K:=K) (aA (aa (by rfl))) (ay.of (X _ _ L7.at_))) (by show (0:Int) < g.length; ext)) (zAz V.int hq)) λH8 X=>?_;have L8:=L7.more X;have hus:=L8.Ac;have hlen:=L8.len;refine⟨Z,g,(q:Int),q,g[q],rfl,rfl,L8.at_,by simp,by lia,?_,y8 Fv,g.eraseIdx q,N.eraseIdx q,_,_,_,_,_,_,rfl,L8.same.put L8.new _,L8.new,aq,?_,λt' ht=>L8.ok t' (List.mem_of_mem_eraseIdx ht),?_,?_⟩
    ·have:=seqIndex_of (show (0:Int)<=(q:Int) by simp) (show (q:Int) < (g.length:Int) by ext);simpa using this
    ·rw[Cp];exact (L8.reps.erase q).same ((ah.refl H8).pP _)
    ·have:=(List.eraseIdx_sublist N q).countP_le (p:=iy);have:=L8.cnt;lia
    ·have:=List.length_eraseIdx_le N q;lia
   ·have L7:=L6.more U;have UO:(0:Int) < (n:Int)+1:=by simp
    refine⟨_,rfl,.inl ⟨rfl,_,ay.of L7.at_⟩,?_⟩;refine RD ?_;refine pO (jj:=4) (aA az) (by simp) (by decide) λH8 X=>?_;refine eS (λi=>.int (z / (([4,64,1024,16384]:List Int).getD i 1) % ((n:Int)+1) - 1)) (small (by decide)) (λi H9 R9 hi9 s9 k9=>?_) λD' H9 uZ s9 L=>?_
    ·have hi4:i < 4:=hi9;have PU:g6 [V.int 4,.int 64,.int 1024,.int 16384] (0+(i:Int))=some (.int (([4,64,1024,16384]:List Int).getD i 1))/\0 < ([4,64,1024,16384]:List Int).getD i 1/\([4,64,1024,16384]:List Int).getD i 1 < 1073741824:=by
      rw[zero_add];rcases (show i=0\/i=1\/i=2\/i=3 by lia) with rfl | rfl | rfl | rfl;·exact⟨rfl,by decide,by decide⟩
      ·exact⟨rfl,by decide,by decide⟩
      ·exact⟨rfl,by decide,by decide⟩
      ·exact⟨rfl,by decide,by decide⟩
     exact fN (aO (bA (bA (aa (by rfl)) (λ_ _=>T4 (K:=K) (ju (au az λ_ _=>au az λ_ _=>au az λ_ _=>aA az) (by show 4<=PK; decide)) (λ_ _=>aa (by rfl)) PU.1) PU.2) (λ_ _=>aO (aa (by rfl)) λ_ _=>az) UO) λ_ _=>az) λCq s10=>k9 Cq s10
    generalize htl:(range (4:Int).toNat).map (λ(i:Nat)=>z / (([4,64,1024,16384]:List Int).getD i 1) % ((n:Int)+1) - 1)=tl;have hDt:H9 D'=some (.lst (tl.map V.int)):=by rw[L,<-htl,zAa]; rfl
    have tok:fk n tl:=by refine⟨by rw[<-htl]; rfl,λf hf=>?_⟩;rw[<-htl] at hf;obtain⟨i,_,rfl⟩:=xL.mp hf;have h1:=zB7 (z / (([4,64,1024,16384]:List Int).getD i 1)) (show (n:Int)+1≠0 by lia);have h2:=zCr (z / (([4,64,1024,16384]:List Int).getD i 1)) UO;constructor <;> lia
    refine⟨D',_,rfl,.inl ⟨ay.of hDt,λp u=>?_⟩⟩;have W:=X.trans s9;have C:=L7.more (W.trans (ah.new u (.tup (tl.map V.int))));have ne:p≠Z:=λe=>by rw[e,W _ _ L7.at_] at u; cases u
    refine⟨Z,g,_,rfl,rfl,C.at_,?_,g++[.ref p],N++[tl],_,_,_,_,_,_,rfl,C.same.put C.new _,C.new,aq,?_,λt' ht=>?_,?_,?_⟩
    ·rw[C.Ac];have:=C.len;exact zCc (show N.length<=1000 by lia) (by decide)
    ·rw[v4];refine aJ.snoc (gZ.mpr ⟨p,rfl,aG.of ?_⟩) (C.reps.same ((ah.refl _).pP _));rw[je ne,aD ne,aq]
    ·rcases w8.mp ht with y | y;·exact C.ok t' y
     ·rw[wP.mp y]; exact tok
    ·rw[List.countP_append];have:=C.cnt;have:=List.countP_le_length (p:=iy) (l:=[tl]);simp only [List.length_singleton] at this;lia
    ·rw[zAf,List.length_singleton];have:=C.len;lia
  ·rintro σ H5 ⟨g,N,e6,e7,e8,e9,o,M,rfl,J⟩;have h05:=O.trans J.same;obtain⟨ps,hps,Ka,hps3⟩:=vQ J.reps;subst hps;have hpl:ps.length<=51:=by have h1:=J.Ac;have h2:=J.len;rw[yB] at h1;lia
   have few:TB.DQ ps 51:=λl Y hk=>by
    have:=TB.gH (l2:=ps.map (·.2)) Y λy hy=>by obtain⟨p,u,e⟩:=hk y hy;exact xL.mpr ⟨p,u,e⟩
    rw[yB] at this;lia
   have ht5:∀p∈ps,aG K H5 p.1 (p.2.map V.int):=λp u=>jw.tup (hps3 p u);have okp:∀p∈ps,fk n p.2:=λp u=>J.ok p.2 (by rw[<-Ka]; exact xL.mpr ⟨p,u,rfl⟩);refine⟨_,rfl,_,rfl,Z,ps,rfl,ay.of J.at_,ht5,λl Y hk=>zAv (few l Y hk) (by decide),λS qs UP m1 m2 Y=>?_⟩;have sS:=ah.new UP (EA P w S qs);have Fv:qs.length<=51:=few.ps Y m1;refine⟨S,qs,rfl,aq,λp u=>sS.tup (ht5 p (m1 p u)),λp u=>?_,by lia,λl rs Xr pm pw=>⟨(by show 2<=PK; decide),λr Xs=>?_⟩⟩
   ·have:=(okp p (m1 p u)).1;intro e;rw[e] at this;cases this
   ·have sl:=ah.new Xr (.lst (rs.map rv));have sr:=ah.new Xs (.tup [V.str x,.ref l]);have all:=h05.trans (sS.trans (sl.trans sr));have mem:∀p∈rs,p∈ps:=λp u=>m1 p (pm.mem_iff.mp u);refine kk r l _ x (rs.map (·.2)) (rs.map rv) ((h05.trans (sS.trans sl)).free Xs) ((h05.trans sS).free Xr) all aq (sr _ _ aq) (vR rs λp u=>(sS.trans (sl.trans sr)).tup (ht5 p (mem p u))) ⟨by ext,by ext,λc hc=>hcab c (by rw[<-hxc]; exact hc),λt' ht=>?_,zAh.mpr pw,?_⟩
    ·obtain⟨p,u,rfl⟩:=xL.mp ht;rw[Ir];exact okp p (mem p u)
    ·have h1:(N.countP iy)<=36+c2:=J.cnt;have nd2:(rs.map (·.2)).Nodup:=(pm.map _).nodup_iff.mpr Y;rw[zCl] at h1 ⊢;have:=TB.gH (l1:=(rs.map (·.2)).filter iy) (l2:=N.filter iy) (show (List.filter iy (rs.map (·.2))).Nodup from zC0 _ nd2) λy hy=>by obtain⟨hy1,zo⟩:=zAt.mp hy;obtain⟨p,u,rfl⟩:=xL.mp hy1;exact zAt.mpr ⟨by rw[<-Ka]; exact xL.mpr ⟨p,mem p u,rfl⟩,zo⟩
     lia
abbrev Fw:Str:="abcd"
noncomputable def Cs (c:Nat):Bool:=decide (c∈Fw.cps.toList)
noncomputable def bM (x:Str):Bool:=x.cps.toList.all Cs
inductive j0 (vs:List V)(H:Hp)(Q:VK)(E_:XK):Prop| mk (x:Str):vs=[.str x]->x.length<=60->(∀H',ah H H'->Q (.bl (bM x)) H')->j0 vs H Q E_
theorem map_getD (x:Str):(range x.cps.size).map (λi=>x.cps.getD i 0)=x.cps.toList:=by refine zCb (by simp) λi a b=>?_;simp at a;simp [getD,a]
theorem Bq:aN ["text"] ["text"] (aE iW):=cI
theorem tK (T:Txt K mg t):aL P w K mg base bg 1 t.kW t.gB ["text"] j0:=by
 refine T.rO.fn.ok Bq (λj H Q E h=>?_) (λn A c s H j Q E r h=>?_)
 ·obtain⟨x,rfl,_⟩:=h;rfl
 obtain⟨x,rfl,p,k⟩:=h;refine⟨_,(av (aK (aH (um K) (by rfl) T.o5 zCI (af (gg ["sign"] [none] (TH (pv 0)) (λ_ _ _ _ m=>⟨(bu 0 m),bT,(lE BZ (pv 0) (eu rfl T.LM T.LN) rfl)⟩)) ai)))),?_⟩;refine⟨_,rfl,x,rfl,?_⟩;refine Ey (λi=>.bl (Cs (x.cps.getD i 0))) (small (by show x.length<=1000; lia)) (λi l R q f g=>?_) λD l o f d=>?_
 ·refine⟨_,rfl,_,_,rfl,rfl,?_⟩;rw[StrLaws.found_one];exact g _ (ah.refl _)
 ·refine⟨D,(range x.cps.size).map (λi=>Cs (x.cps.getD i 0)),rfl,ay.of (by rw[d,zAa]; rfl),?_⟩;have e:(((range x.cps.size).map (λi=>Cs (x.cps.getD i 0))).all λb=>b)=bM x:=by unfold bM;rw[<-map_getD x,zBm,zBm];rfl
  rw[e];exact k _ f
def Sm (p:List Str):Prop:=p.length<=30/\∀r∈p,r.length<=40
noncomputable def dj (p:List Str):Nat:=(p.headD ⟨#[]⟩).length
noncomputable def qT (n:Nat)(r:Str):Bool:=decide (V.int r.length=V.int n)&&bM r
noncomputable def d9 (p:List Str):Bool:=(decide ((1:Int)<=p.length)&&decide ((p.length:Int)<=4))&&((decide ((1:Int)<=dj p)&&decide ((dj p:Int)<=12))&&p.all (qT (dj p)))
inductive oJ (K:zzA)(vs:List V)(H:Hp)(Q:VK)(E_:XK):Prop| mk (a:M1) (p:List Str):vs=[.ref a]->ay K H a (p.map V.str)->Sm p->(∀H',ah H H'->Q (.bl (d9 p)) H')->oJ K vs H Q E_
theorem xJ {p:List Str}{i:Nat}(h:(p.map V.str)[i]?=some x):∃r,x=.str r/\r∈p/\p[i]?=some r:=by rw[v3] at h;cases e:p[i]? with| none=>rw[e] at h; cases h| some r=>rw[e] at h; exact⟨r,(zAy h).symm,j1 e,rfl⟩
noncomputable def PV (f:Str->V):V->V| .str r=>f r| v=>v
theorem Bs (f:Str->V)(p:List Str):(p.map V.str).map (PV f)=p.map f:=by rw[zAa]; rfl
theorem u5:aN ["rows","wide"] ["rows"] (aE jx):=cI
theorem C_ (T:Txt K mg t):aL P w K mg base bg 2 t.pW t.jE ["rows"] (oJ K):=by
 have d:aL P w K mg base bg 1 t.kW t.gB ["text"] j0:=tK T;refine T.z6.fn.ok u5 (λvs H Q E h=>?_) (λZ A M s H vs Q E X h=>?_)
 ·obtain⟨a,p,rfl,_⟩:=h;rfl
 obtain⟨a,p,rfl,y,B,k⟩:=h;have n:∀G,ah H G->rC K (.ref a) G p.length:=λG s=>.inl ⟨_,s.seq y,by simp⟩;refine⟨_,(aj (bG (nP (Ed xA xA ao (aH (dB K) (by rfl) T.cg zA1 (af (pv 0) ai)) (eu rfl T.GX T.GY))) (av (aK kU)) aW) (aj (bh 1 u5.nd (aH (dB K) (by rfl) T.cg zA1 (af (aI (cO K) (pv 0) ao (λ_ _=>rfl)) ai))) (aj (bG (nP (Ed xA xA ao (pv 1) (eu rfl T.Bh T.Bj))) (av (aK kU)) aW) (av (aK (aH (um K) (by rfl) T.o5 zCI (af (gg ["row","wide"] [none,some 1] (dD K (pv 0)) (λ_ _ _ _ nd=>⟨(bu 0 nd),bT,(zx (lE dQ (aH (dB K) (by rfl) T.cg zA1 (af (pv 0) ai)) (pv 1) (iV _)) (vz (cD T.rO d X aM (af (pv 0) ai))))⟩)) ai))))))),?_⟩;refine zU (fc (nU (bF (uh az (λo j=>vN (aA (aa (by rfl))) λS v=>n S (j.trans v)) λo j=>az))) (λc o j=>?_) λc o j=>Ie ?_)
 ·have e:d9 p=false:=by unfold d9;rw[zCj] at c;rw[c,zC1]
  have:=k o j;rw[e] at this;exact this
 have O:(decide ((1:Int)<=p.length)&&decide ((p.length:Int)<=4))=true:=by simpa using c
 cases p with| nil=>simp at O| cons f g=>
  have hr0:f.length<=40:=B.2 f zAc;refine zU (Ez (fZ (aA (f_ (aa (by rfl)) (λ_ _=>az) (j.seq y) (yJ _ _))) (small (by lia))) λS v=>?_);refine zU (fc (nU (bF (uh az (λq m=>aa (by rfl)) λq m=>az))) (λu q m=>?_) λu q m=>Ie ?_)
  ·have e:d9 (f::g)=false:=by unfold d9;rw[zCj] at u;have c3:(decide ((1:Int)<=dj (f::g))&&decide ((dj (f::g):Int)<=12))=false:=u;rw[c3,zC1,Bool.and_false]
   have:=k q ((j.trans v).trans m);rw[e] at this;exact this
  have l:=(j.trans v).trans m;have I:(decide ((1:Int)<=dj (f::g))&&decide ((dj (f::g):Int)<=12))=true:=by
   have z:(decide ((1:Int)<=f.length)&&decide ((f.length:Int)<=12))=true:=by simpa using u
   exact z
  refine⟨_,rfl,a,rfl,⟨_,l.seq y⟩,?_⟩;refine oA (PV λr=>.bl (qT f.length r)) (l.seq y) (small (by have:=B.1; simp at this ⊢; lia)) (λi x Y R W U V=>?_) λD Y hD U N=>?_
  ·obtain⟨r,rfl,F,_⟩:=xJ W;have hrl:=B.2 r F;refine fN (zT (dz (fZ (aA (aa (by rfl))) (small (by lia))) (λL J=>aa (by rfl)) (by rfl)) (λ_ L J=>eB (aA (aa (by rfl))) λH6 R' s6 C=>⟨r,rfl,by lia,C⟩)) λL J=>?_;exact V L J
  ·refine⟨D,(f::g).map (qT f.length),rfl,ay.of (by rw[N,Bs,zAa]; rfl),?_⟩;have e:(((f::g).map (qT f.length)).all λb=>b)=d9 (f::g):=by unfold d9;rw[O,I,zB9,zB9,zBm];rfl
   rw[e];exact k _ (l.trans U)
inductive xK (K:zzA)(C:M1)(vs:List V)(H:Hp)(Q:VK)(E:XK):Prop| mk (a:M1) (p:List Str):vs=[.ref a]->ay K H a (p.map V.str)->Sm p->(d9 p=true->∀H',ah H H'->Q .bq H')->((d9 p=false->∀H',ah H H'->E (.ref C) none H'))->xK K C vs H Q E
theorem Ae:aN ["picture"] ["picture"] (aE g9):=cI
theorem qU (T:Txt K mg t):aL P w K mg base (nS P w) 3 t.jU t.f7 ["picture"] (xK K t.dI):=by
 have b:aL P w K mg base bg 2 t.pW t.jE ["rows"] (oJ K):=C_ T;refine T.qd.fn.Pe Ae (λm H Q E h=>?_) (λn A f s H m Q E o h=>?_)
 ·obtain⟨a,p,rfl,_⟩:=h;rfl
 obtain⟨a,p,rfl,l,i,j,k⟩:=h;refine⟨_,(av (bG (nP (sI (cD T.z6 b o aM (af (pv 0) ai)))) (av (Ew vL rfl rfl rfl rfl T.Fd rfl (af nN ai))) aW)),?_⟩;refine fc (nU (dY (eB (aA (aa (by rfl))) λe R d g=>⟨a,p,rfl,d.seq l,i,g⟩))) (λc e d=>?_) λc e d=>?_;·exact⟨(by show 1<=PK; decide),k (by simpa using c) e d⟩
 ·exact j (by simpa using c) e d
theorem k_ {d:List (Option Nat)}{h:TE}{σ:L2.St}{c:Hp}{Q:M1->Hp->Prop}{a:M1}{xs:List V}{l:Nat}(f:Nat->V)(u:ay K c a xs)(hz:xs.length<=PK)(o:∀(i:Nat) (x:V) (H:Hp) (R:VK),xs[i]?=some x->ah c H->(∀g,ah H g->R (f i) g)->h ((dS d σ).set l (some x)) H R)(r:∀D H,c D=none->ah c H->H D=some (.lst ((range xs.length).map f))->Q D H):cL (mW K a) d (cz l) ly h σ c Q:=by
 refine qI u hz (λi k _=>k=(range i).map f) (λD e=>by rfl) (λD i x k H m A e n j b p s v=>?_) λD k H e j b y p=>?_
 ·show h ((dS d σ).set l (some x)) H m;exact o i x H m n j λg q=>s _ _ q (by rw[zA2,v4,p]; rfl)
 ·refine r D H e j ?_;rw[b,p]
noncomputable def lg (n:Nat)(t:List Int):Bool:=decide (t.length=4)&&t.all λf=>decide (-1<=f)&&decide (f < n)
noncomputable def Xu (f:Int->V):V->V| .int r=>f r| v=>v
theorem RE (f:Int->V)(p:List Int):(p.map V.int).map (Xu f)=p.map f:=by rw[zAa]; rfl
theorem Iu {p:List Int}{i:Nat}(h:(p.map V.int)[i]?=some x):∃r,x=.int r/\r∈p/\p[i]?=some r:=by rw[v3] at h;cases e:p[i]? with| none=>rw[e] at h; cases h| some r=>rw[e] at h; exact⟨r,(zAy h).symm,j1 e,rfl⟩
inductive oK (K:zzA)(vs:List V)(H:Hp)(Q:VK)(E_:XK):Prop| mk (a:M1) (tl:List Int) (n:Nat):vs=[.ref a,.int 4,.int n]->aG K H a (tl.map V.int)->tl.length<=30->(∀H',ah H H'->Q (.bl (lg n tl)) H')->oK K vs H Q E_
theorem Dc:aN ["fields","many","marks"] ["fields","many","marks"] (aE jz):=cI
theorem Dd (T:Txt K mg t):aL P w K mg base bg 1 t.pY t.jG ["fields","many","marks"] (oK K):=by
 refine T.z8.fn.ok Dc (λG H Q E h=>?_) (λv A e s H G Q E L h=>?_)
 ·obtain⟨a,b,n,rfl,_⟩:=h;rfl
 obtain⟨a,b,n,rfl,j,I,k⟩:=h;refine⟨_,(av (aK (zx (lE dQ (aH (dB K) (by rfl) T.cg zA1 (af (pv 0) ai)) (pv 1) (iV _)) (vz (aH (um K) (by rfl) T.o5 zCI (af (gg ["field","marks"] [none,some 2] (qJ K (pv 0)) (λ_ _ _ _ C=>⟨(bu 0 C),bT,(Ec xA Dp (eu rfl T.gn T.gp) (pv 0) (pv 1))⟩)) ai)))))),?_⟩;refine bU (aR (zT (q:=b.all λf=>decide (-1<=f)&&decide (f < n)) (dz (Ba (K:=K) (aA (aa (by rfl))) j) (λ_ _=>aa (by rfl)) (by rfl)) λ_ l c=>(λR r=>?_)) (y:=.bl (lg n b)) ?_) λl c=>k l c
 ·refine nj (vS (K:=K) (aa (by rfl)) (c.tup j) λJ u d=>?_);refine EE (Xu λf=>.bl (decide (-1<=f)&&decide (f < n))) d (small (by rw[yB]; lia)) (λi x z M p m o=>?_) λD z N m g=>?_
  ·obtain⟨f,rfl,_,_⟩:=Iu p;exact fN (uh az (λ_ _=>aa (by rfl)) λ_ _=>aa (by rfl)) λF B=>o F B
  ·refine⟨D,b.map λ(f:Int)=>decide (-1<=f)&&decide (f < (n:Int)),rfl,ay.of (by rw[g,RE,zAa]; rfl),?_⟩;rw[zBm];exact r _ (u.trans m)
 ·unfold lg;rw[yB];congr 2;simp;lia
noncomputable def o6:zzB->Bool| a::b::r=>HT.lexLt a b&&o6 (b::r)| _=>true
theorem Af:∀ts:zzB,((range (ts.length - 1)).all λi=>HT.lexLt (ts.getD i []) (ts.getD (i+1) []))=o6 ts| []=>rfl| [a]=>rfl| a::b::r=>by have d:=Af (b::r);show ((range (r.length+1)).all _)=(HT.lexLt a b&&o6 (b::r));rw[List.range_succ_eq_map,List.all_cons,zBm,<-d];rfl
inductive yW (K:zzA)(vs:List V)(H:Hp)(Q:VK)(E_:XK):Prop| mk (a:M1) (ts:zzB):vs=[.ref a]->Rep K H (.lst (ts.map tupI)) (.ref a)->ts.length<=900->(∀H',ah H H'->Q (.bl (o6 ts)) H')->yW K vs H Q E_
theorem yX (h:Rep K H (.lst b) (.ref a)):∃xs,ay K H a xs/\aJ K H b xs:=by unfold Rep at h;obtain⟨c,xs,e,q,r⟩:=h;cases e;exact⟨xs,q,r⟩
theorem Ob:aN ["tiles"] ["tiles"] (aE sX):=cI
theorem Oc (T:Txt K mg t):aL P w K mg base bg 1 t.Bf t.sZ ["tiles"] (yW K):=by
 refine T.Pz.fn.ok Ob (λY H Q E h=>?_) (λO A p s H Y Q E x h=>?_)
 ·obtain⟨a,e,rfl,_⟩:=h;rfl
 obtain⟨a,e,rfl,l,hl,k⟩:=h;obtain⟨C,o,g⟩:=yX l;have r:C.length=e.length:=by rw[g.length,yB]
 have m:∀i,i < e.length->∃c,C[i]?=some (.ref c)/\aG K H c ((e.getD i []).map V.int):=λi I=>by obtain⟨v,X,x⟩:=g.get i (tupI (e.getD i [])) (by rw[v3,y2,y8 I]; rfl);obtain⟨c,rfl,u⟩:=gZ.mp x;exact⟨c,X,u⟩
 refine⟨_,(av (aK (aH (um K) (by rfl) T.o5 zCI (af (gg ["place","tiles"] [none,some 0] (BX rfl T.cH (af ao (af (aH (dB K) (by rfl) T.cg zA1 (af (pv 0) ai)) ai))) (λ_ _ _ _ S=>⟨(bu 0 S),bT,(lE (YY K x.units) (aI (cO K) (pv 1) (aC cX (pv 0) ao) (λ_ _=>rfl)) (aI (cO K) (pv 1) (pv 0) (λ_ _=>rfl)) (iV _))⟩)) ai)))),?_⟩;refine cV (nj (Rk (i:=1) (j:=(e.length:Int)) (au az λL n=>aA (aR (f6 (K:=K) (aA (aa (by rfl))) (n.seq o)) (by rw[r]))) ⟨by simp,by decide,by simp,by lia⟩ λL n=>?_));have N:((e.length:Int) - 1).toNat=e.length - 1:=by simp
 rw[N];refine eS (λi=>.bl (HT.lexLt (e.getD i []) (e.getD (i+1) []))) (small (by lia)) (λi J R I q U=>?_) λD J hD q B=>?_
 ·obtain⟨c,u,W⟩:=m i (by lia);obtain⟨d,Z,M⟩:=m (i+1) (by lia);have f:=n.trans q;refine fN (Ub (K:=K) (f_ (K:=K) (aa (by rfl)) (λ_ _=>aR (aO (aa (by rfl)) λ_ _=>az) (y:=.int (i:Int)) (by congr 1; lia)) (f.seq o) (bL u)) (λF z=>f_ (K:=K) (aa (by rfl)) (λ_ _=>aR (aa (by rfl)) (y:=.int ((i+1:Nat):Int)) (by congr 1; lia)) ((f.trans z).seq o) (bL Z)) (f.tup W) (f.tup M)) λF z=>U F z
 ·refine⟨D,(range (e.length - 1)).map λi=>HT.lexLt (e.getD i []) (e.getD (i+1) []),rfl,ay.of (by rw[B,zAa]; rfl),?_⟩;rw[zBm,show (range (e.length - 1)).all ((λb=>b) ∘ λi=>HT.lexLt (e.getD i []) (e.getD (i+1) []))=o6 e from Af e];exact k _ (n.trans q)
noncomputable def kr (x:Str)(ts:zzB):Bool:=(decide (x.length<=16)&&bM x)&&(ts.all (lg x.length)&&o6 ts)
noncomputable def uE (K:zzA)(H:Hp)(a:M1)(x:Str)(ts:zzB):Prop:=∃T,aG K H a [.str x,.ref T]/\Rep K H (.lst (ts.map tupI)) (.ref T)
theorem uE.same (h:uE K H a x ts)(s:ah H H'):uE K H' a x ts:=by obtain⟨T,b,c⟩:=h;exact⟨T,s.tup b,c.same s⟩
structure Fx (x:Str)(ts:zzB):Prop where
 short:x.length<=60
 few:ts.length<=900
 small:∀t∈ts,t.length<=30
inductive qo (K:zzA)(vs:List V)(H:Hp)(Q:VK)(E_:XK):Prop| mk (a:M1) (x:Str) (ts:zzB):vs=[.ref a]->uE K H a x ts->Fx x ts->(∀H',ah H H'->Q (.bl (kr x ts)) H')->qo K vs H Q E_
theorem qp:aN ["system","letters","tiles"] ["system"] (aE kB):=cI
theorem Fy (T:Txt K mg t):aL P w K mg base bg 2 t.rJ t.kG ["system"] (qo K):=by
 have d:aL P w K mg base bg 1 t.kW t.gB ["text"] j0:=tK T;have f:aL P w K mg base bg 1 t.pY t.jG ["fields","many","marks"] (oK K):=Dd T;have m:aL P w K mg base bg 1 t.Bf t.sZ ["tiles"] (yW K):=Oc T;refine T.Cj.fn.ok qp (λvs H Q E h=>?_) (λcdv A Y s H vs Q E u h=>?_)
 ·obtain⟨a,x,g,rfl,_⟩:=h;rfl
 obtain⟨a,x,g,rfl,⟨L,U,C⟩,N,k⟩:=h;have Xv:=N.short;have O:=N.few;refine⟨_,(aj (bG (a_ zC (aH (dB K) (by rfl) T.cg zA1 (af (pv 0) ai)) ao (iV _)) (av (aK kU)) aW) (aj (bh 1 qp.nd (aI (cQ K) (pv 0) ao (λ_ _=>rfl))) (aj (bh 2 qp.nd (aI (cQ K) (pv 0) ao (λ_ _=>rfl))) (aj (bG (PW.pt (qE (a_ WG (aH (dB K) (by rfl) T.cg zA1 (af (pv 1) ai)) (eu rfl T.E9 T.Fb) (iV _)) (sJ (nP (sI (cD T.rO d u aM (af (pv 1) ai))))))) (av (aK kU)) aW) (av (aK (zx (aH (um K) (by rfl) T.o5 zCI (af (gg ["tile","letters"] [none,some 1] (dD K (pv 2)) (λ_ _ _ _ nd=>⟨(bu 0 nd),bT,(cD T.z8 f u aM (af (pv 0) (af (eu rfl T.C7 T.C8) (af (aH (dB K) (by rfl) T.cg zA1 (af (pv 1) ai)) ai))))⟩)) ai)) (vz (cD T.Pz m u aM (af (pv 2) ai)))))))))),?_⟩;refine eG (b:=false) (di (bF (vM (Ba (K:=K) (aA (aa (by rfl))) U) (λ_ _=>az) (by rfl))) (by rfl)) (λc=>absurd c (by decide)) λc H1 W=>?_;refine eL (cG (K:=K) (aa (by rfl)) (λ_ _=>az) (W.tup U) (bL (j:=0) rfl)) λH2 s2=>?_;refine eL (cG (K:=K) (aa (by rfl)) (λ_ _=>az) ((W.trans s2).tup U) (bL (j:=1) rfl)) λH3 s3=>?_;have z:=W.trans (s2.trans s3);refine eG (b:=!(decide (x.length<=16)&&bM x)) (di (ug (bF (aO (fZ (K:=K) (aA (aa (by rfl))) (small (by lia))) λ_ _=>az)) λ_ M G=>nU (dY (eB (aA (aa (by rfl))) λI R' n k5=>⟨x,rfl,by symm,k5⟩))) ?_) (λc M G=>?_) λc M G=>?_
 ·rw[Bool.not_and];congr 1;by_cases c:x.length<=16;·rw[j2 c,zAx (by lia)]; rfl
  ·rw[zAx c,j2 (by lia)]; rfl
 ·have e:kr x g=false:=by unfold kr;rw[zCj] at c;rw[c,zC1]
  have:=k M (z.trans G);rw[e] at this;exact this
 have c':(decide (x.length<=16)&&bM x)=true:=by simpa using c
 have o:=z.trans G;have l:=C.same o;obtain⟨xs,hq,y⟩:=yX l;have S:xs.length=g.length:=by rw[y.length,yB]
 refine bU (v:=.bl (kr x g)) (aR (zT (p:=g.all (lg x.length)) (q:=o6 g) (λR r=>?_) λ_ I n=>eB (aA (aa (by rfl))) λH6 R' F J=>⟨L,g,rfl,l.same (n.trans F),O,J⟩) (by unfold kr; rw[c',zB9])) λI n=>k I (o.trans n);refine nj (lW (K:=K) (aa (by rfl)) hq λI n V=>?_);refine k_ (λi=>.bl (lg x.length (g.getD i []))) V (small (by lia)) (λi v H6 R6 hv F J=>?_) λD H6 hD F Z=>?_
 ·have hi:i < g.length:=by have:=(q0.mp hv).1; ext
  obtain⟨v',B,u⟩:=y.get i (tupI (g.getD i [])) (by rw[v3,y2,y8 hi]; rfl);rw[hv] at B;cases B;obtain⟨c,rfl,hc⟩:=gZ.mp u;have hm:g.getD i []∈g:=getD_mem hi;exact fN (eB (au (aa (by rfl)) λ_ _=>au az λ_ _=>aA (fZ (K:=K) (aA (aa (by rfl))) (small (by lia)))) λH7 R7 X k7=>⟨c,g.getD i [],x.length,rfl,(n.trans (F.trans X)).tup hc,N.small _ hm,k7⟩) λH7 X=>J H7 X
 ·refine⟨D,(range xs.length).map λi=>lg x.length (g.getD i []),rfl,ay.of (by rw[Z,zAa]; rfl),?_⟩;have e:(((range xs.length).map λi=>lg x.length (g.getD i [])).all λb=>b)=g.all (lg x.length):=by
   rw[S];have:(range g.length).map (λi=>g.getD i [])=g:=by refine zCb (by simp) λi h1 h2=>?_;simp [h2]
   conv=>rhs; rw[<-this]
   rw[zBm,zBm];rfl
  rw[e];exact r _ (n.trans F)
inductive uF (K:zzA)(C:M1)(vs:List V)(H:Hp)(Q:VK)(E:XK):Prop| mk (a:M1) (x:Str) (ts:zzB):vs=[.ref a]->uE K H a x ts->Fx x ts->(kr x ts=true->∀H',ah H H'->Q .bq H')->((kr x ts=false->∀H',ah H H'->E (.ref C) none H'))->uF K C vs H Q E
theorem Bt:aN ["system"] ["system"] (aE iX):=cI
theorem tL (T:Txt K mg t):aL P w K mg base (nS P w) 3 t.kX t.gC ["system"] (uF K t.fY):=by
 have b:aL P w K mg base bg 2 t.rJ t.kG ["system"] (qo K):=Fy T;refine T.rP.fn.Pe Bt (λn H Q E h=>?_) (λp A f s H n Q E i h=>?_)
 ·obtain⟨a,x,g,rfl,_⟩:=h;rfl
 obtain⟨a,x,g,rfl,o,m,l,j⟩:=h;refine⟨_,(av (bG (nP (sI (cD T.Cj b i aM (af (pv 0) ai)))) (av (Ew vL rfl rfl rfl rfl T.G0 rfl (af nN ai))) aW)),?_⟩;refine fc (nU (dY (eB (aA (aa (by rfl))) λe R d k=>⟨a,x,g,rfl,o.same d,m,k⟩))) (λc e d=>?_) λc e d=>?_;·exact⟨(by show 1<=PK; decide),j (by simpa using c) e d⟩
 ·exact l (by simpa using c) e d
theorem wc {α β:Type}(g:α->β)(l:List α)(d:α):l.map g=(range l.length).map λi=>g (l.getD i d):=by
 refine zCb (by simp) λi a c=>?_;have b:i < l.length:=by simpa using a
 simp [y2,b]
theorem Ct (xs:List V)(k:Nat):ki xs (some (k:Int)) none=xs.drop k:=by
 unfold ki;rw[HT.Ej,HT.sO];by_cases h:k<=xs.length;·rw[Nat.min_eq_left h,List.take_of_length_le (by simp)]
 ·rw[Nat.min_eq_right (by lia),zCs,List.take_zero,List.drop_eq_nil_of_le (by lia)]
theorem Iv {a b:M1}{xs ys:List V}{u:TS}{D:Ends}{σ:L2.St}{H:Hp}{A s n:Nat}(F:n<=xs.length/\n<=ys.length/\(xs.length<=n\/ys.length<=n))(c:Nat->L2.St->Hp->Prop)(G:c 0 σ H)(L:∀i σ H,c i σ H->ay K H a xs/\ay K H b ys)(J:∀i x y σ H g,i < n->xs[i]?=some x->ys[i]?=some y->c i σ H->H g=none->u { D with nx:=c (i+1),ct:=c (i+1),bk:=D.nx } ((σ.set A (some x)).set s (some y)) (upd H g (.tup [x,y]))) (O:∀σ H,c n σ H->D.nx σ H) : ∃W:Nat->Nat->L2.St->Hp->Prop,(∃m,W 0 m σ H)/\∀i m σ H,W i m σ H->((Es K a b).stop i H/\D.nx σ H)\/((Es K a b).go i H/\∃N:L2.St->Hp->Prop,(∀r H',N r H'->∃z,z < m/\W (i+1) z r H')/\∀x H',(Es K a b).BW i H x H'->rB K 2 (gJ (cz A) (gJ (cz s) t_)) x σ H' λE Q=>u { D with nx:=N,ct:=N,bk:=D.nx } E Q):=by
 refine⟨λi m σ H=>m=n - i/\i<=n/\c i σ H,⟨n,by simp,zAb _,G⟩,?_⟩;rintro i m σ H ⟨rfl,R,p⟩;obtain⟨q,o⟩:=L i σ H p;by_cases f:i < n
 ·have l:xs[i]?=some xs[i]:=y8 (by lia);have k:ys[i]?=some ys[i]:=y8 (by lia);refine .inr ⟨⟨xs,ys,xs[i],ys[i],q,o,l,k⟩,c (i+1),λr H' M=>⟨n - (i+1),by grind,rfl,f,M⟩,λv H' y=>?_⟩;obtain⟨g,rfl,I,S,T,rfl,C,B⟩:=y;have d:=C xs q;have h:=B ys o;rw[l] at d; rw[k] at h;cases d; cases h;exact⟨g,_,rfl,aG.of aq,rfl,xs[i],_,rfl,ys[i],_,rfl,rfl,J i _ _ σ H g f l k p I⟩
 ·have e:i=n:=by lia
  subst e;exact .inl ⟨⟨xs,ys,q,o,F.2.2⟩,O σ H p⟩
noncomputable def tM (K:zzA)(H:Hp)(a:M1)(b:zzB):Prop:=∃c:zzD,ay K H a (c.map rv)/\(∀p∈c,H p.1=some (.lst (p.2.map V.int)))/\c.map (·.2)=b
theorem tM.same (h:tM K H a b)(s:ah H H'):tM K H' a b:=by obtain⟨e,f,d,g⟩:=h;exact⟨e,s.seq f,λp c=>s _ _ (d p c),g⟩
inductive kO (K:zzA)(f:zzB->List Dt)(vs:List V)(H:Hp)(Q:VK)(E_:XK):Prop| mk (a:M1) (rows:zzB):vs=[.ref a]->tM K H a rows->rows≠[]->(∀r∈rows,r.length=cJ rows)->rows.length<=20->cJ rows<=20->(∀(F:M1) (H':Hp) (ws:List V),H F=none->ah H H'->H' F=some (.lst ws)->aJ K (Hm F H') (f rows) ws->Q (.ref F) H')->kO K f vs H Q E_
theorem Iw (h:Gv c σ H (.ref p))(e:H p=some (.lst (ns.map V.int))):Gd K (A0 (cA c dR)) σ H [bV ns]:=λR r=> h _ λg a=>⟨(by show 1<=PK; decide),λq b=>r q _ _ (a.free b) (a.trans (ah.new b _)) aq (by unfold aJ;refine⟨_,_,rfl,g4.mpr ⟨p,rfl,ay.of ?_⟩,by unfold aJ; rfl⟩;have d:p≠q:=aS (a _ _ e) b;rw[je d,aD d];exact a _ _ e)⟩
theorem RG (j:Gn i σ H xs)(e:∀H',ah H H'->Gv g σ H' (.ref b)/\H' b=some (.lst ys))(hz:xs.length+ys.length<=PK):Gn (cT Em i g) σ H (xs++ys):=λR r=> j _ λa f j d k=>(e f d).1 _ λm c=>⟨a,b,xs,ys,rfl,rfl,c _ _ k,c _ _ (e f d).2,hz,λq h=>r q _ ((d.trans c).free h) ((d.trans c).trans (ah.new h _)) aq⟩
theorem yh:aN ["rows","edge"] ["rows"] (aE lX):=cI
theorem G7 (T:Txt K mg t):aL P w K mg base bg 1 t.uw t.l8 ["rows"] (kO K λb=>(aT b).map bV):=by
 refine T.E5.fn.ok yh (λvs H Q E h=>?_) (λcdv A N s H vs Q E hr h=>?_)
 ·obtain⟨a,b,rfl,_⟩:=h;rfl
 obtain⟨a,b,rfl,⟨rs,hq,C,rfl⟩,hne,n,d,B,kk⟩:=h;rw[yB] at d;refine⟨_,(aj (bh 1 yh.nd (aC zI (bH (af (eu rfl T.gn T.gp) ai)) (aC aU (aH (dB K) (by rfl) T.cg zA1 (af (aI (cO K) (pv 0) ao (λ_ _=>rfl)) ai)) ao))) (av (aK (aC jq (aC jq (bH (af (pv 1) ai)) (gg ["row"] [none] (dD K (pv 0)) (λ_ _ _ _ nd=>⟨(bu 0 nd),bT,(aC jq (aC jq (bH (af (eu rfl T.gn T.gp) ai)) (pv 0)) (bH (af (eu rfl T.gn T.gp) ai)))⟩))) (bH (af (pv 1) ai)))))),?_⟩;obtain⟨g,l,rfl⟩:∃g l,rs=g::l:=by cases rs with| nil=>exact absurd rfl hne| cons g l=>exact⟨g,l,rfl⟩
 generalize c:(g::l).map (·.2)=b at *;have L:g.2.length=cJ b:=by rw[<-c]; rfl
 refine aP (JR (Ph (Fl (k:=cJ b+2) (ju (xs:=[.int (-1)]) (aA az) (by show 1<=PK; decide)) (λH1 o=>aR (aO (f6 (K:=K) (aA (f_ (K:=K) (aa (by rfl)) (λ_ _=>az) (o.seq hq) (bL (j:=0) rfl))) (ay.of (o _ _ (C g zAc)))) λ_ _=>az) (by rw[yB,L]; rfl)) (by lia) (by simp; lia)) (v8 _ _)) λea H1 hea o m=>?_);have y:b.map (λr=>bV ([-1]++r++[-1]))=(range ((g::l).map rv).length).map λi=>bV ([-1]++b.getD i []++[-1]):=by rw[show ((g::l).map rv).length=b.length by rw[<-c]; simp];exact wc (λr=>bV ([-1]++r++[-1])) b []
 have eb:(aT b).map bV=[bV (iw b)]++b.map (λr=>bV ([-1]++r++[-1]))++[bV (iw b)]:=by unfold aT;rw[v4,v4,zAa];rfl
 have hrl:b.length=l.length+1:=by rw[<-c]; simp
 refine cV (PL (K:=K) (Aa (Aa (Iw (ns:=iw b) (aa (by rfl)) m) (λI q=>(show Gd K _ _ I (b.map λr=>bV ([-1]++r++[-1])) from λR r=>?_)) (small (by simp at d ⊢; lia))) (λI q=>Iw (ns:=iw b) (aa (by rfl)) (q _ _ m)) (small (by simp at d ⊢; lia))) λF I ws hF q O rF=>?_)
 ·refine lW (K:=K) (aa (by rfl)) ((o.trans q).seq hq) λH4 X LR=>?_;refine oE (λi=>bV ([-1]++b.getD i []++[-1])) LR (small (by rw[yB]; lia)) (λD i x H5 R5 hD M v W k5=>?_) λD H5 ys hD W v9 U=>r D H5 ys (X.free hD) (X.trans W) v9 (by rw[y]; exact U);obtain⟨f,u,hpx⟩:∃f,(g::l)[i]?=some f/\x=.ref f.1:=by rw[v3] at v;cases e:(g::l)[i]? with| none=>rw[e] at v; cases v| some f=>rw[e] at v; exact⟨f,rfl,(zAy v).symm⟩
  subst hpx;have hm:=j1 u;have Y:b.getD i []=f.2:=by rw[<-c,y2,v3,u]; rfl
  have hpl:f.2.length<=20:=by rw[n f.2 (by rw[<-c]; exact xL.mpr ⟨f,hm,rfl⟩)]; exact B
  have S:=o.trans (q.trans (X.trans W));refine JR (A_ (xs:=[.int (-1)]++f.2.map V.int) (RG (ju (aA az) (by show 1<=PK; decide)) (λZ G=>⟨aa (by rfl),(S.trans G) _ _ (C f hm)⟩) (small (by simp; lia))) (λZ G=>ju (aA az) (by show 1<=PK; decide)) (small (by simp; lia))) λp Z hp G hl=>?_;refine k5 _ Z G (g4.mpr ⟨p,rfl,ay.of ?_⟩);have ne:p≠D:=λz=>by obtain⟨ys,J⟩:=M;rw[z,J] at hp;cases hp
  rw[je ne,hl,Y];simp
 ·exact kk F I ws (o.free hF) (o.trans q) O (by show aJ K _ ((aT b).map bV) ws; rw[eb]; exact rF)
theorem Fz {ws:List V}{f:Nat->List V}(h:∀{a:Hp},ah b a->∀y,y < n->∃c,ws[y]?=some (.ref c)/\ay K a c (f y)){i:Nat}{a:Hp}{c:M1}(s:ah b a)(d:i < n)(g:ws[i]?=some (.ref c)):ay K a c (f i):=by obtain⟨j,e,q⟩:=h s i d;rw[g] at e;cases e;exact q
theorem i_:aN ["rows","fields","tiles","upper","lower","place"] ["rows"] (aE lY):=cI
theorem G9 (T:Txt K mg t):aL P w K mg base bg 2 t.ux t.l9 ["rows"] (kO K λb=>(gx b).map tupI):=by
 have f:aL P w K mg base bg 1 t.uw t.l8 ["rows"] (kO K λb=>(aT b).map bV):=G7 T;refine T.E6.fn.ok i_ (λvs H Q E h=>?_) (λcdv A outer s H vs Q E hr h=>?_)
 ·obtain⟨a,b,rfl,_⟩:=h;rfl
 obtain⟨a,b,rfl,hR,hne,g,hlen,Fq,kk⟩:=h;refine⟨_,(aj (bh 1 i_.nd (cD T.E5 f hr aM (af (pv 0) ai))) (aj (bh 2 i_.nd (bH ai)) (aj (cS zAl rfl (JQ K T.DC (af (pv 1) (af (ue (TY K) (pv 1) (sP ao) A4) ai))) (jd K (n:=2) (aY (bu 3 i_.nd) (aY (bu 4 i_.nd) fm))) (av (cS zAl rfl (bP rfl T.cH (af (aC cX (aH (dB K) (by rfl) T.cg zA1 (af (pv 3) ai)) ao) ai)) (bu 5 i_.nd) (av (cU (mX K zAo zAq zAr dh (pv 2) (af (bw (af (aI (cO K) (pv 3) (pv 5) (λ_ _=>rfl)) (af (aI (cO K) (pv 3) (aC aU (pv 5) ao) (λ_ _=>rfl)) (af (aI (cO K) (pv 4) (pv 5) (λ_ _=>rfl)) (af (aI (cO K) (pv 4) (aC aU (pv 5) ao) (λ_ _=>rfl)) ai))))) ai))))))) (av (aK (pv 2)))))),?_⟩;refine aP (iH (aA (aa (by rfl))) λH1 s1=>⟨a,b,rfl,hR.same s1,hne,g,hlen,Fq,λS H2 D hS s2 Y rS=>?_⟩);have s02:=s1.trans s2;have d:∀{I:Hp},ah H2 I->∀y,y < b.length+2->∃c,D[y]?=some (.ref c)/\ay K I c (((aT b).getD y []).map V.int):=λ{I} sx y hy=>by
  have hy':y < (aT b).length:=by rw[qi]; exact hy
  obtain⟨v,hv,hr⟩:=aJ.get rS y (bV ((aT b).getD y [])) (by rw[v3,y2,y8 hy']; rfl);obtain⟨c,rfl,hc⟩:=g4.mp hr;exact⟨c,hv,(jw.trans sx).seq hc⟩
 have hwl:D.length=b.length+2:=by rw[aJ.length rS,yB,qi]
 refine aP ⟨(by show 0<=PK; decide),λF hF=>?_⟩;have sF:=ah.new hF (.lst []);refine⟨_,rfl,_,rfl,1,rfl,S,D,rfl,ay.of (sF _ _ Y),λp hp=>⟨S,p,rfl,⟨_,ay.of (ah.new hp _ _ _ (sF _ _ Y))⟩,⟨_,ay.of aq⟩,?_⟩⟩;have ecut:ki D (some 1) none=D.drop 1:=Ct D 1;have sp:=ah.new hp (.lst (ki D (some 1) none));have nFp:p≠F:=λz=>by rw[z,aq] at hp; cases hp
 refine Iv (K:=K) (xs:=D) (ys:=D.drop 1) (n:=b.length+1) ⟨by ext,by rw[List.length_drop]; ext,.inr (by rw[List.length_drop]; ext)⟩ (λi σ O=>∃(e3 e4 L:Option V) (l:List V),σ=[some (.ref a),some (.ref S),some (.ref F),e3,e4,L]/\ah H2 O/\O p=some (.lst (D.drop 1))/\O F=some (.lst l)/\aJ K (Hm F O) (((range i).flatMap (fL b)).map tupI) l) ⟨none,none,none,[],rfl,sF.trans sp,by rw[aq,ecut],sp _ _ aq,by show aJ K _ [] []; unfold aJ; rfl⟩ (λi σ O hh=>by obtain⟨e3,e4,L,l,rfl,X,N,C,J⟩:=hh;exact⟨ay.of (X _ _ Y),ay.of N⟩) ?_ ?_
 ·rintro i x y σ O tp hi hx hy ⟨e3,e4,L,l,rfl,X,N,C,J⟩ G;obtain⟨c1,hc1,q1⟩:=d (X.trans (ah.new G (.tup [x,y]))) i (by lia);obtain⟨c2,hc2,q2⟩:=d (X.trans (ah.new G (.tup [x,y]))) (i+1) (by ext);rw[hx] at hc1;cases hc1;rw[List.getElem?_drop,show 1+i=i+1 by exact Nat.add_comm 1 i] at hy;rw[hy] at hc2;cases hc2;have l1:=qj g (y:=i) (by lia);have l2:=qj g (y:=i+1) (by ext);have st:=ah.new G (.tup [V.ref c1,V.ref c2]);have nTF:tp≠F:=λz=>by rw[z,C] at G; cases G
  refine Bm (n:=cJ b+1) (aA (aR (aO (f6 (K:=K) (aA (aa (by rfl))) q1) λ_ _=>az) (by rw[yB,l1]; congr 1; lia))) (by lia) (λj σ r=>∃(L:Option V) (l:List V),σ=[some (.ref a),some (.ref S),some (.ref F),some (.ref c1),some (.ref c2),L]/\ah H2 r/\r p=some (.lst (D.drop 1))/\ay K r c1 (((aT b).getD i []).map V.int)/\ay K r c2 (((aT b).getD (i+1) []).map V.int)/\r F=some (.lst l)/\aJ K (Hm F r) ((((range i).flatMap (fL b))++(range j).map (d8 (aT b) i)).map tupI) l) (λr u=>⟨L,l,rfl,X.trans (st.trans u),u _ _ (st _ _ N),u.seq q1,u.seq q2,u _ _ (st _ _ C),by simpa using J.same (st.trans u).hm⟩) ?_ ?_
  ·rintro j σ r hj ⟨L,l,rfl,u,Z,W,U,B,M⟩;have it:∀{σ:L2.St} {I:Hp} {k:Nat} {tc:TE} {y x:Nat} {c:M1},σ[k]?=some (some (V.ref c))->ah r I->ay K r c (((aT b).getD y []).map V.int)->x < ((aT b).getD y []).length->(∀R,ah I R->Gv tc σ R (.int (x:Int)))->Gv (cT (oq K) (cF k) tc) σ I (.int (((aT b).getD y []).getD x 0)):=λh2 sx hc hx UL=> f_ (K:=K) (aa h2) UL (sx.seq hc) (uD hx);have vx:∀{σ:L2.St} {I:Hp},σ[5]?=some (some (V.int (j:Int)))->∀R,ah I R->Gv (cF 5) σ R (.int (j:Int)):=λh _ _=>aa h;have vx1:∀{σ:L2.St} {I:Hp},σ[5]?=some (some (V.int (j:Int)))->∀R,ah I R->Gv (cT (oM λi j=>.int (i+j)) (cF 5) (tC (.int 1))) σ R (.int ((j+1:Nat):Int)):=λh _ _=>aR (aO (aa h) λ_ _=>az) rfl;refine⟨_,rfl,.inl ⟨rfl,_,ay.of B⟩,?_⟩;refine Fp (au (it (y:=i) (x:=j) rfl (ah.refl _) W (by lia) (vx rfl)) λH5 s5=>au (it (y:=i) (x:=j+1) rfl s5 W (by lia) (vx1 rfl)) λH6 s6=>au (it (y:=i+1) (x:=j) rfl (s5.trans s6) U (by lia) (vx rfl)) λH7 s7=>aA (it (y:=i+1) (x:=j+1) rfl (s5.trans (s6.trans s7)) U (by lia) (vx1 rfl))) (by show 4<=PK; decide) λH5 q s5 hq=>?_;have sq:=ah.new hq (.tup [V.int (((aT b).getD i []).getD j 0),.int (((aT b).getD i []).getD (j+1) 0),.int (((aT b).getD (i+1) []).getD j 0),.int (((aT b).getD (i+1) []).getD (j+1) 0)]);have m:=s5.trans sq;have ne:q≠F:=λz=>by rw[z,s5 _ _ B] at hq; cases hq
   have hcF:∀{c:M1} {zs:List V} {o:HO},ay K r c zs->ay K r c zs:=λh=>h;refine⟨F,l,_,rfl,rfl,m _ _ B,?_,?_⟩
   ·rw[M.length];refine zCc (show _<=1000 from ?_) (by decide);have hfl:=qk b i;simp only [yB,zAf,zBn];have:i * (cJ b+1)<=21 * 21:=Nat.mul_le_mul (by lia) (by lia);lia
   ·refine⟨_,l++[.ref q],rfl,(u.trans m).put hF _,?_,?_,?_,aq,?_⟩;·rw[aD nFp]; exact m _ _ Z
    ·exact (Fz d (i:=i) ((u.trans m).put hF _) (by lia) hx)
    ·exact (Fz d (i:=i+1) ((u.trans m).put hF _) (by lia) hy)
    ·have e:(((range i).flatMap (fL b))++(range (j+1)).map (d8 (aT b) i)).map tupI=(((range i).flatMap (fL b))++(range j).map (d8 (aT b) i)).map tupI++[tupI (d8 (aT b) i j)]:=by simp [zA2]
     rw[e];refine aJ.snoc (gZ.mpr ⟨q,rfl,aG.of ?_⟩) (M.same (m.pP _));rw[je ne,aD ne,aq];rfl
  ·rintro σ r ⟨L,l,rfl,u,Z,W,U,B,M⟩;refine⟨_,_,_,l,rfl,u,Z,B,?_⟩;rw[zA2,List.flatMap_append];simpa [fL] using M
 ·rintro σ O ⟨e3,e4,L,l,rfl,X,N,C,J⟩;exact⟨_,rfl,kk F O l (s02.free hF) (s02.trans X) C J⟩
noncomputable def qq (x:Str)(m:Int)(l:Str):Bool:=(decide (0<=m)&&decide (m < x.length))&&decide (V.str ⟨#[x.cps.getD m.toNat 0]⟩=V.str l)
inductive we (vs:List V)(H:Hp)(Q:VK)(E_:XK):Prop| mk (x:Str) (m:Int) (l:Str):vs=[.str x,.int m,.str l]->x.length<=60->(∀H',ah H H'->Q (.bl (qq x m l)) H')->we vs H Q E_
theorem FD {x:Str}{m:Int}(b:0<=m)(a:m < x.length):g6 x.cps.toList m=some (x.cps.getD m.toNat 0):=by
 obtain⟨j,rfl⟩:=zBd b;have c:j < x.cps.size:=by have:(j:Int) < (x.cps.size:Int):=a;ext
 refine bL (j:=j) ?_;show x.cps.toList[j]?=some (x.cps.getD j 0);rw[zBt,zAn,zA5 c];rfl
theorem De:aN ["letters","mark","letter"] ["letters","mark","letter"] (aE jA):=cI
theorem Df (T:Txt K mg t):aL P w K mg base bg 1 t.p9 t.jH ["letters","mark","letter"] we:=by
 refine T.z9.fn.ok De (λg H Q E h=>?_) (λf A a s H g Q E i h=>?_)
 ·obtain⟨x,m,l,rfl,_⟩:=h;rfl
 obtain⟨x,m,l,rfl,j,k⟩:=h;refine⟨_,(av (aK (zx (Ec xA Dp ao (pv 1) (aH (dB K) (by rfl) T.cg zA1 (af (pv 0) ai))) (vz (lE dQ (aI lU (pv 0) (pv 1) (λ_ _=>rfl)) (pv 2) (iV _)))))),?_⟩;refine bU (v:=.bl (qq x m l)) (zT (uh az (λ_ _=>aa (by rfl)) λ_ _=>fZ (K:=K) (aA (aa (by rfl))) (small (by lia))) λc d b=>?_) λd b=>k d b;have e:0<=m/\m < x.length:=by simpa using c
 exact dz (nV (aa (by rfl)) (λ_ _=>aa (by rfl)) (small (by lia)) (FD e.1 e.2)) (λ_ _=>aa (by rfl)) (by rfl)
noncomputable def sgn (y:Str)(i:Nat):Str:=⟨#[y.cps.getD i 0]⟩
noncomputable def iA (x y:Str)(ms:List Int):Bool:=decide (ms.length=y.cps.size)&&(range ms.length).all λi=>qq x (ms.getD i 0) (sgn y i)
inductive rT (K:zzA)(vs:List V)(H:Hp)(Q:VK)(E_:XK):Prop| mk (x y:Str) (a:M1) (ms:List Int):vs=[.str x,.str y,.ref a]->ay K H a (ms.map V.int)->x.length<=60->y.length<=40->y.cps.all (· < 128)=true->(∀H',ah H H'->Q (.bl (iA x y ms)) H')->rT K vs H Q E_
theorem G_:aN ["letters","text","marks"] ["letters","text","marks"] (aE lZ):=cI
theorem Hv (T:Txt K mg t):aL P w K mg base bg 2 t.uy t.l_ ["letters","text","marks"] (rT K):=by
 have d:aL P w K mg base bg 1 t.p9 t.jH ["letters","mark","letter"] we:=Df T;refine T.E7.fn.ok G_ (λvs H Q E h=>?_) (λM A q s H vs Q E N h=>?_)
 ·obtain⟨x,y,a,f,rfl,_⟩:=h;rfl
 obtain⟨x,y,a,f,rfl,C,X,S,g,k⟩:=h;refine⟨_,(aj (bG (a_ zC (aH (dB K) (by rfl) T.cg zA1 (af (pv 2) ai)) (aH (dB K) (by rfl) T.cg zA1 (af (pv 1) ai)) (iV _)) (av (aK kU)) aW) (av (aK (aH (um K) (by rfl) T.o5 zCI (af (gg ["mark","letter","letters"] [none,none,some 0] (Uh K T.DC (af (pv 2) (af (pv 1) ai))) (λ_ _ _ _ F=>⟨(jd K (n:=2) (aY (bu 0 F) (aY (bu 1 F) fm))),bT,(cD T.z9 d N aM (af (pv 2) (af (pv 0) (af (pv 1) ai))))⟩)) ai))))),?_⟩;refine eG (b:=!decide (f.length=y.cps.size)) (di (bF (vM (f6 (K:=K) (aA (aa (by rfl))) C) (λ_ _=>fZ (K:=K) (aA (aa (by rfl))) (small (by lia))) (by rfl))) ?_) (λc r j=>?_) λc r j=>?_
 ·rw[yB];congr 1;simp [Str.length];lia
 ·have e:iA x y f=false:=by unfold iA;rw[zCj] at c;rw[c,zC1]
  have:=k r j;rw[e] at this;exact this
 have I:f.length=y.cps.size:=by simpa using c
 have U:y.cps.size<=40:=S;refine cV (nj (Rn (K:=K) (au (aa (by rfl)) λ_ _=>aA (aa (by rfl))) (j.seq C) g λH2 s2 o=>?_));refine C5 (λi=>.bl (qq x (f.getD i 0) (sgn y i))) o (by rw[yB]; exact I) (small (by rw[yB]; lia)) (λi v l Z R W hi L G B=>?_) λD Z hD G p=>?_
 ·obtain⟨m,rfl,_,Y⟩:=Iu W;have O:f.getD i 0=m:=by rw[y2,Y]; rfl
  subst L;rw[O] at B;exact fN (eB (au (aa (by rfl)) λ_ _=>au (aa (by rfl)) λ_ _=>aA (aa (by rfl))) λu R4 z J=>⟨x,m,sgn y i,rfl,X,J⟩) λu z=>B u z
 ·refine⟨D,(range (f.map V.int).length).map λi=>qq x (f.getD i 0) (sgn y i),rfl,ay.of (by rw[p,zAa]; rfl),?_⟩;have e:(((range (f.map V.int).length).map λi=>qq x (f.getD i 0) (sgn y i)).all λb=>b)=iA x y f:=by unfold iA;rw[j2 I,zB9,zBm,yB];rfl
  rw[e];exact k _ (j.trans (s2.trans G))
noncomputable def qt (x:Str)(p:List Str)(a:zzB):Bool:=decide (a.length=p.length)&&(range p.length).all λi=>iA x (p.getD i ⟨#[]⟩) (a.getD i [])
structure Xw (p:List Str):Prop where
 few:p.length<=40
 short:∀r∈p,r.length<=40
 plain:∀r∈p,r.cps.all (· < 128)=true
inductive rV (K:zzA)(vs:List V)(H:Hp)(Q:VK)(E_:XK):Prop| mk (x:Str) (b a:M1) (p:List Str) (rows:zzB):vs=[.str x,.ref b,.ref a]->ay K H b (p.map V.str)->tM K H a rows->x.length<=60->Xw p->(∀H',ah H H'->Q (.bl (qt x p rows)) H')->rV K vs H Q E_
theorem Hw:aN ["letters","picture","rows"] ["letters","picture","rows"] (aE l6):=cI
theorem Hy (T:Txt K mg t):aL P w K mg base bg 3 t.uz t.mh ["letters","picture","rows"] (rV K):=by
 have d:aL P w K mg base bg 2 t.uy t.l_ ["letters","text","marks"] (rT K):=Hv T;refine T.E8.fn.ok Hw (λvs H Q E h=>?_) (λcdv A z s H vs Q E hr h=>?_)
 ·obtain⟨x,b,a,p,q,rfl,_⟩:=h;rfl
 obtain⟨x,b,a,p,q,rfl,X,⟨f,Z,r,rfl⟩,hx,G,k⟩:=h;refine⟨_,(aj (bG (a_ zC (aH (dB K) (by rfl) T.cg zA1 (af (pv 2) ai)) (aH (dB K) (by rfl) T.cg zA1 (af (pv 1) ai)) (iV _)) (av (aK kU)) aW) (av (aK (aH (um K) (by rfl) T.o5 zCI (af (gg ["text","marks","letters"] [none,none,some 0] (JQ K T.DC (af (pv 1) (af (pv 2) ai))) (λ_ _ _ _ U=>⟨(jd K (n:=2) (aY (bu 0 U) (aY (bu 1 U) fm))),bT,(cD T.E7 d hr aM (af (pv 2) (af (pv 0) (af (pv 1) ai))))⟩)) ai))))),?_⟩;refine eG (b:=!decide ((f.map (·.2)).length=p.length)) (di (bF (vM (f6 (K:=K) (aA (aa (by rfl))) Z) (λ_ j=>f6 (K:=K) (aA (aa (by rfl))) (j.seq X)) (by rfl))) ?_) (λc O j=>?_) λc O j=>?_
 ·rw[yB,yB,yB];congr 1;simp;lia
 ·have e:qt x p (f.map (·.2))=false:=by unfold qt;rw[zCj] at c;rw[c,zC1]
  have:=k O j;rw[e] at this;exact this
 have B:(f.map (·.2)).length=p.length:=by simpa using c
 have c2:f.length=p.length:=by rw[yB] at B; exact B
 have hpf:=G.few;refine cV (nj (TV (K:=K) (au (aa (by rfl)) λ_ _=>aA (aa (by rfl))) (j.seq X) (j.seq Z) λH2 W u C=>?_));refine EF (λi=>.bl (iA x (p.getD i ⟨#[]⟩) ((f.map (·.2)).getD i []))) u C (by rw[yB,yB,c2]) (small (by rw[yB]; lia)) (λi v l H3 R hv m I S=>?_) λD H3 hD I M=>?_
 ·obtain⟨y,rfl,Y,L⟩:=xJ hv;obtain⟨g,o,F⟩:∃g,f[i]?=some g/\l=.ref g.1:=by rw[v3] at m;cases e:f[i]? with| none=>rw[e] at m; cases m| some g=>rw[e] at m; exact⟨g,rfl,(zAy m).symm⟩
  subst F;have e1:p.getD i ⟨#[]⟩=y:=by rw[y2,L]; rfl
  have e2:(f.map (·.2)).getD i []=g.2:=by rw[y2,v3,o]; rfl
  rw[e1,e2] at S;have N:=j.trans (W.trans I);exact fN (eB (au (aa (by rfl)) λ_ _=>au (aa (by rfl)) λ_ _=>aA (aa (by rfl))) λH4 R4 J k4=>⟨x,y,g.1,g.2,rfl,ay.of ((N.trans J) _ _ (r g (j1 o))),hx,G.short y Y,G.plain y Y,k4⟩) λH4 J=>S H4 J
 ·refine⟨D,(range (p.map V.str).length).map λi=>iA x (p.getD i ⟨#[]⟩) ((f.map (·.2)).getD i []),rfl,ay.of (by rw[M,zAa]; rfl),?_⟩;have e:(((range (p.map V.str).length).map λi=>iA x (p.getD i ⟨#[]⟩) ((f.map (·.2)).getD i [])).all λb=>b)=qt x p (f.map (·.2)):=by unfold qt;rw[j2 B,zB9,zBm,yB];rfl
  rw[e];exact k _ (j.trans (W.trans I))
theorem lM (h:d9 p=true):p≠[]/\p.length<=4/\dj p<=12/\1<=dj p/\(∀r∈p,r.length=dj p)/\∀r∈p,bM r=true:=by
 unfold d9 at h;simp only [zAp,zAu,zAj] at h;obtain⟨⟨a,c⟩,⟨f,g⟩,d⟩:=h;refine⟨λe=>?_,by lia,by lia,by lia,λr b=>?_,λr b=>?_⟩;·rw[e] at a; simp at a
 ·have:=d r b;unfold qT at this;simp only [zAp,zAu] at this;have a:=this.1;injection a with c;exact Int.ofNat.inj c
 ·have:=d r b;unfold qT at this;simp only [zAp] at this;exact this.2
theorem Od (h:bM r=true):r.cps.all (· < 128)=true:=by
 unfold bM at h;rw[zAj] at h;rw[<-Array.all_toList,zAj];intro c d;have b:=h c d;unfold Cs at b;have f:c∈Fw.cps.toList:=zAi b;have e:∀c∈Fw.cps.toList,c < 128:=by decide +kernel
 exact j2 (e c f)
theorem RH (h:d9 p=true):Xw p:=by obtain⟨_,d,e,_,c,b⟩:=lM h;exact⟨by lia,λr a=>by rw[c r a]; lia,λr a=>Od (b r a)⟩
theorem Oe (f:qt x p a=true)(h:d9 p=true):a≠[]/\(∀r∈a,r.length=cJ a)/\a.length<=20/\cJ a<=20:=by
 obtain⟨l,z,y,_,n,_⟩:=lM h;unfold qt at f;simp only [zAp,zAu,zAj,zAk] at f;obtain⟨j,o⟩:=f;have d:a≠[]:=λe=>by rw[e] at j;exact l (List.length_eq_zero_iff.mp j.symm)
 have c:∀r∈a,r.length=dj p:=λr g=>by
  obtain⟨i,q,rfl⟩:=zA8.mp g;have b:i < p.length:=by lia
  have:=o i b;unfold iA at this;simp only [zAp,zAu] at this;have k:a.getD i []=a[i]:=by simp [q]
  have s:p.getD i ⟨#[]⟩=p[i]:=by simp [b]
  rw[k,s] at this;rw[this.1];exact n _ (zCa b)
 have m:cJ a=dj p:=by cases a with| nil=>exact absurd rfl d| cons u v=>exact c u zAc
 exact⟨d,λr g=>by rw[c r g,m],by lia,by lia⟩
noncomputable def pairD (t:List Int):Dt:=.tup [tupI t,.bl true]
theorem Ag:∀{ts:zzB} {vs:List V},aJ K H (ts.map pairD) vs->∃ps:List (M1 × M1 × List Int),vs=ps.map Uk/\ps.map (·.2.2)=ts/\∀p∈ps,aG K H p.1 [.ref p.2.1,.bl true]/\aG K H p.2.1 (p.2.2.map V.int)
 | [],_,r=>by rw[List.map_nil] at r;unfold aJ at r;exact⟨[],r,rfl,λp a=>absurd a (by simp)⟩| t::ts,_,r=>by
  rw[zAw] at r;unfold aJ at r;obtain⟨x,n,rfl,q,h⟩:=r;unfold pairD Rep at q;obtain⟨c,o,rfl,l,f⟩:=q;unfold aJ at f;obtain⟨y,u,rfl,i,e⟩:=f;unfold aJ at e;obtain⟨z,s,rfl,d,g⟩:=e;unfold aJ at g;unfold Rep at d;subst d g;obtain⟨b,rfl,m⟩:=gZ.mp i;obtain⟨ps,rfl,j,k⟩:=Ag h;refine⟨(c,b,t)::ps,rfl,by rw[zAw,j],λp a=>?_⟩;rcases u1.mp a with rfl | a;·exact⟨l,m⟩
  ·exact k p a
theorem UQ (o:Gv g σ H (.ref b))(l:∀H',ah H H'->Gv f σ H' (.ref d))(j:aG K H b (k.map V.int))(n:H d=some (zW P w d e))(i:∀x∈e,aG K H x.2.1 (x.1.map V.int)) : Gv (cT (NQ K P w) g f) σ H (.bl (zAS e k).isSome):=λR r=>o _ λm a=>l m a _ λp c=>⟨b,d,k,e,rfl,rfl,(a.trans c).tup j,(a.trans c) _ _ n,λx h=>(a.trans c).tup (i x h),r p (a.trans c)⟩
noncomputable def qV (x:Str)(ts:zzB)(p:List Str)(a:zzB):Bool:=qt x p a&&(gx a).all λt=>decide (t∈ts)
inductive yY (K:zzA)(CS CP:M1)(vs:List V)(H:Hp)(Q:VK)(E:XK):Prop| mk (a b r:M1) (x:Str) (ts:zzB) (p:List Str) (rows:zzB):vs=[.ref a,.ref b,.ref r]->uE K H a x ts->Fx x ts->ay K H b (p.map V.str)->Sm p->tM K H r rows->(kr x ts=false->∀H',ah H H'->E (.ref CS) none H')->(kr x ts=true->d9 p=false->∀H',ah H H'->E (.ref CP) none H')->((kr x ts=true->d9 p=true->∀H',ah H H'->Q (.bl (qV x ts p rows)) H'))->yY K CS CP vs H Q E
theorem FE:aN ["system","picture","rows","known"] ["system","picture","rows"] (aE sY):=cI
theorem Of (T:Txt K mg t):aL P w K mg base (nS P w) 4 t.Bg t.s_ ["system","picture","rows"] (yY K t.fY t.dI):=by
 have g:aL P w K mg base (nS P w) 3 t.kX t.gC ["system"] (uF K t.fY):=tL T;have f:aL P w K mg base (nS P w) 3 t.jU t.f7 ["picture"] (xK K t.dI):=qU T;have n:aL P w K mg base bg 3 t.uz t.mh ["letters","picture","rows"] (rV K):=Hy T;have m:aL P w K mg base bg 2 t.ux t.l9 ["rows"] (kO K λd=>(gx d).map tupI):=G9 T;refine T.PB.fn.Pe FE (λvs H Q E h=>?_) (λcdv A outer s H vs Q E W h=>?_)
 ·obtain⟨a,b,r,x,l,p,d,rfl,_⟩:=h;rfl
 obtain⟨a,b,r,x,l,p,d,rfl,hA,hM,hb,LX,hR,k1,k2,k3⟩:=h;refine⟨_,(aj (cU (cD T.rP g W (A9 vL rfl rfl rfl (λ_ _ _ z=>z)) (af (pv 0) ai))) (aj (cU (cD T.qd f W (A9 vL rfl rfl rfl (λ_ _ _ z=>z)) (af (pv 1) ai))) (aj (bG (nP (sI (cD T.E8 n W aM (af (aI (cQ K) (pv 0) ao (λ_ _=>rfl)) (af (pv 1) (af (pv 2) ai)))))) (av (aK kU)) aW) (aj (bh 3 FE.nd (gM (Um K P w W.units) (by rfl) T.Fe boot_dict (af (gg ["tile"] [none] (dD K (aI (cQ K) (pv 0) ao (λ_ _=>rfl))) (λ_ _ _ _ nd=>⟨(bu 0 nd),bT,(bw (af (pv 0) (af kU ai)))⟩)) ai))) (av (aK (aH (um K) (by rfl) T.o5 zCI (af (gg ["tile","known"] [none,some 3] (dD K (cD T.E6 m W aM (af (pv 2) ai))) (λ_ _ _ _ nd=>⟨(bu 0 nd),bT,(lE (Y0 K P w W.units) (pv 0) (pv 1) rfl)⟩)) ai)))))))),?_⟩;refine yL (iH (aA (aa (by rfl))) λH1 s1=>⟨a,x,l,rfl,hA.same s1,hM,λc1 H2 s2=>?_,λc1 H2 s2=>k1 c1 H2 (s1.trans s2)⟩);have J:=s1.trans s2;refine yL (iH (aA (aa (by rfl))) λH3 s3=>⟨b,p,rfl,(J.trans s3).seq hb,LX,λc2 H4 s4=>?_,λc2 H4 s4=>k2 c1 c2 H4 ((J.trans s3).trans s4)⟩);have u:=(J.trans s3).trans s4;have k:=k3 c1 c2;have Xv:=hM.short;have hft:=hM.few;obtain⟨L,hT,hrep⟩:=hA;refine eG (b:=!qt x p d) (nU (dY (eB (au (cG (K:=K) (aa (by rfl)) (λ_ _=>az) (u.tup hT) (bL (j:=0) rfl)) λ_ _=>au (aa (by rfl)) λ_ _=>aA (aa (by rfl))) λH5 R U k5=>⟨x,b,r,p,d,rfl,(u.trans U).seq hb,hR.same (u.trans U),Xv,RH c2,k5⟩))) (λc H5 U=>?_) λc H5 U=>?_
 ·have e:qV x l p d=false:=by unfold qV;rw[zCj] at c;rw[c,zC1]
  have:=k H5 (u.trans U);rw[e] at this;exact this
 have c':qt x p d=true:=by simpa using c
 obtain⟨hne,M,hlen,X⟩:=Oe c' c2;have I:=u.trans U;have N:=hrep.same I;obtain⟨xs,hq,hr0⟩:=yX N;have Ir:xs.length=l.length:=by rw[hr0.length,yB]
 refine aP (nj (lW (K:=K) (cG (K:=K) (aa (by rfl)) (λ_ _=>az) (I.tup hT) (bL (j:=1) rfl)) hq λH6 s6 UR=>?_));refine oE (λi=>pairD (l.getD i [])) UR (small (by lia)) (λD i v H7 R7 hD UJ hv s7 k7=>?_) λD H7 ys hD s7 v9 Y=>?_
 ·have hi:i < l.length:=by have:=(q0.mp hv).1; ext
  obtain⟨v',B,C⟩:=hr0.get i (tupI (l.getD i [])) (by rw[v3,y2,y8 hi]; rfl);rw[hv] at B;cases B;obtain⟨c,rfl,hc⟩:=gZ.mp C;refine (au (aa (by rfl)) λ_ _=>aA az) _ λH8 O=>⟨(by show 2<=PK; decide),λq G=>k7 _ _ (O.trans (ah.new G _)) ?_⟩;obtain⟨ys,hys⟩:=UJ;have neq:q≠D:=λz=>by rw[z,O _ _ hys] at G; cases G
  unfold pairD Rep;refine⟨q,_,rfl,aG.of (by rw[je neq,aq]),?_⟩;unfold aJ;refine⟨_,_,rfl,?_,by unfold aJ; exact⟨_,_,rfl,by unfold Rep; rfl,by unfold aJ; rfl⟩⟩;refine (C.same ?_);intro z o hz;have nD:z≠D:=λe=>by rw[e,s6.free hD] at hz; cases hz
  rw[je nD];exact (s6.trans (s7.trans (O.trans (ah.new G _)))) z o hz
 ·rw[Ir,show (range l.length).map (λi=>pairD (l.getD i []))=l.map pairD from (wc pairD l []).symm] at Y;obtain⟨ps,rfl,e2,e3⟩:=Ag Y;have Xx:∀p∈ps,aG K H7 p.1 [.ref p.2.1,.bl true]/\aG K H7 p.2.1 (p.2.2.map V.int):=λp hp=>⟨jw.tup (e3 p hp).1,jw.tup (e3 p hp).2⟩;refine⟨D,ps,rfl,ay.of v9,Xx,?_,λS ds hS m1 m2=>?_⟩
  ·have:ps.length=l.length:=by rw[<-e2,yB]
   lia
  have sS:=ah.new hS (zW P w S ds);have Z:=I.trans (s6.trans (s7.trans sS));refine cV (nj (iH (aA (aa (by rfl))) λH8 O=>⟨r,d,rfl,hR.same (Z.trans O),hne,M,hlen,X,λF H9 ws hF s9 Cr rF=>⟨F,rfl,⟨_,ay.of Cr⟩,?_⟩⟩));have hwl:ws.length=(gx d).length:=by rw[aJ.length rF,yB]
  have US:(gx d).length<=1000:=by have:=qk d (d.length+1);have e:(gx d).length=(d.length+1) * (cJ d+1):=this;have:(d.length+1) * (cJ d+1)<=21 * 21:=Nat.mul_le_mul (by ext) (by ext);lia
  refine k_ (λi=>.bl (decide ((gx d).getD i []∈l))) (ay.of Cr) (small (by ext)) (λi v HA RA hv sA kA=>?_) λD2 HA UT sA hDA=>?_
  ·have hi:i < (gx d).length:=by have:=(q0.mp hv).1; ext
   obtain⟨v',B,C⟩:=aJ.get rF i (tupI ((gx d).getD i [])) (by rw[v3,y2,y8 hi]; rfl);rw[hv] at B;cases B;obtain⟨c,rfl,hc⟩:=gZ.mp C;have sSA:=(O.trans s9).trans sA;refine fN (aR (UQ (aa (by rfl)) (λ_ _=>aa (by rfl)) ((jw.trans sA).tup hc) (sSA _ _ aq) (λy hy=>?_)) (y:=.bl (decide ((gx d).getD i []∈l))) ?_) λHB sB=>kA HB sB
   ·obtain⟨p',hp',f1,f2⟩:=m2 y hy;rw[f1,f2];exact (sS.trans sSA).tup (Xx p' hp').2
   ·congr 1;rw[zC6,m1,decide_eq_true_iff,<-e2,xL]
  ·refine⟨D2,(range ws.length).map λi=>decide ((gx d).getD i []∈l),rfl,ay.of (by rw[hDA,zAa]; rfl),?_⟩;have e:(((range ws.length).map λi=>decide ((gx d).getD i []∈l)).all λb=>b)=qV x l p d:=by unfold qV;rw[c',zB9,hwl];have:=wc (λt:List Int=>decide (t∈l)) (gx d) [];rw[<-this,zBm];rfl
   rw[e];exact k _ (Z.trans ((O.trans s9).trans sA))
end
end fX
namespace kg
open PySem
abbrev fM:=List (Int × Int)
structure Gs where
 m:Nat
 B:List fM
 D:List Nat
noncomputable def aZ (G:Gs)(n:Int):fM:=G.B.getD n.toNat []
def bit (n:Int)(f:Int):Prop:=0<=n/\-1<=f/\n.toNat.testBit (f+1).toNat=true
instance (n f:Int):Decidable (bit n f):=by unfold bit; infer_instance
noncomputable def Mem (G:Gs):Nat->Int->List Int->Prop| 0,n,a=>∃f,a=[f]/\bit n f| d+1,n,a=>∃f r p,a=f::r/\(f,p)∈aZ G n/\Mem G d p r
noncomputable def Num (G:Gs):Nat->Int->Prop| 0,n=>0<=n/\n < 2 ^ (G.m+1)| d+1,n=>n=0\/(1<=n/\G.D[n.toNat]?=some (d+1))
structure m5 (G:Gs)(d:Nat)(ps:fM):Prop where
 rise:ps.Pairwise λp q=>p.1 < q.1
 fld:∀p∈ps,-1<=p.1/\p.1 < G.m
 num:∀p∈ps,Num G d p.2
structure WF (G:Gs):Prop where
 len:G.D.length=G.B.length
 zero:G.B[0]?=some []
 top:G.D[0]?=some 0
 ok:∀(i:Nat) (ps:fM),1<=i->G.B[i]?=some ps->∃d,G.D[i]?=some (d+1)/\ps≠[]/\m5 G d ps/\∀p∈ps,p.2≠0
 few:G.m<=16
structure Ext (G G':Gs):Prop where
 b:∀(i:Nat) (ps:fM),G.B[i]?=some ps->G'.B[i]?=some ps
 d:∀(i:Nat) (k:Nat),G.D[i]?=some k->G'.D[i]?=some k
 m:G'.m=G.m
 w:WF G
section
variable {G G':Gs}{d e:Nat}{n r:Int}{fs:List Int}{ps:fM}{S S':List Int->Prop}
theorem Num.nonneg (h:Num G d n):0<=n:=by cases d with| zero=>exact h.1| succ d=>rcases h with h | h <;> lia
theorem Num.zero:Num G d 0:=by cases d with| zero=>exact⟨by simp,Int.pow_pos (by decide)⟩| succ d=>exact .inl rfl
theorem Num.depth (h:Num G (d+1) n)(h':Num G (e+1) n)(a:n≠0):d=e:=by have:=(h.resolve_left a).2.symm.trans (h'.resolve_left a).2;ext
theorem WF.z (W:WF G):kg.aZ G 0=[]:=by unfold kg.aZ; rw[y2,show (0:Int).toNat=0 from rfl,W.zero]; rfl
theorem WF.aZ (W:WF G)(h:Num G (d+1) n):m5 G d (kg.aZ G n)/\(∀p∈kg.aZ G n,p.2≠0)/\(n≠0->kg.aZ G n≠[])/\n.toNat < G.B.length:=by
 rcases h with rfl | ⟨m,c⟩
 ·rw[W.z];exact⟨⟨.nil,by simp,by simp⟩,by simp,λh=>absurd rfl h,(q0.mp W.zero).1⟩
 ·have b:n.toNat < G.B.length:=by rw[<-W.len]; exact (q0.mp c).1
  obtain⟨g,f,j,l,i⟩:=W.ok n.toNat G.B[n.toNat] (by lia) (y8 b);obtain rfl:g=d:=by rw[c] at f; simpa using f.symm
  have k:kg.aZ G n=G.B[n.toNat]:=by unfold kg.aZ; rw[y2,y8 b]; rfl
  rw[k];exact⟨l,i,λ_=>j,b⟩
theorem cE (W:WF G):¬ Mem G d 0 fs:=by cases d with| zero=> rintro⟨f,_,_,_,h⟩;ext| succ d=> rintro⟨f,r,p,_,h,_⟩;rw[W.z] at h;ext
theorem Ext.refl (W:WF G):Ext G G:=⟨(by simp),(by simp),rfl,W⟩
theorem Ext.trans (a:Ext G G')(b:Ext G' c):Ext G c:=⟨λi ps h=>b.b i ps (a.b i ps h),λi k h=>b.d i k (a.d i k h),b.m.trans a.m,a.w⟩
theorem Ext.len (x:Ext G G'):G.B.length<=G'.B.length:=by have a:=(q0.mp x.w.zero).1;have:=(q0.mp (x.b (G.B.length - 1) _ (y8 (by lia)))).1;lia
theorem Num.ext (h:Num G d n)(x:Ext G G'):Num G' d n:=by cases d with| zero=>exact⟨h.1,by rw[x.m]; exact h.2⟩| succ d=>exact h.imp id λh=>⟨h.1,x.d _ _ h.2⟩
theorem Num.back (h:Num G' (d+1) n)(x:Ext G G')(a:n.toNat < G.B.length):Num G (d+1) n:=by rw[<-x.w.len] at a;refine h.imp id λh=>⟨h.1,?_⟩;have:=x.d n.toNat G.D[n.toNat] (by simp);ext
theorem RI (h:Num G (d+1) n)(x:Ext G G'):aZ G' n=aZ G n:=by have a:=(x.w.aZ h).2.2.2;unfold aZ;rw[y2,y2,x.b _ _ (y8 a),y8 a]
theorem bX (x:Ext G G'):∀(d:Nat) (n:Int) (fs:List Int),Num G d n->(Mem G' d n fs↔Mem G d n fs)
 | 0,n,fs,h=>Iff.rfl| d+1,n,fs,h=>by
  have c:=(x.w.aZ h).1;show (∃f r p,fs=f::r/\(f,p)∈aZ G' n/\Mem G' d p r)↔∃f r p,fs=f::r/\(f,p)∈aZ G n/\Mem G d p r;rw[RI h x];constructor <;> rintro⟨f,r,p,e,a,b⟩;·exact⟨f,r,p,e,a,(bX x d p r (c.num _ a)).mp b⟩
  ·exact⟨f,r,p,e,a,(bX x d p r (c.num _ a)).mpr b⟩
theorem m5.ext (h:m5 G d ps)(x:Ext G G'):m5 G' d ps:=⟨h.rise,by rw[x.m]; exact h.fld,λp a=>(h.num p a).ext x⟩
theorem tN:∀(d:Nat) (n:Int) (fs:List Int),Mem G d n fs->fs.length=d+1| 0,n,fs,⟨f,e,_⟩=>by ext| d+1,n,fs,⟨f,r,p,e,_,h⟩=>by rw[e,zBw,tN d p r h]
theorem mem_some (W:WF G):∀(d:Nat) (n:Int),Num G d n->n≠0->∃fs,Mem G d n fs| 0,n,h,f=>by obtain⟨i,k⟩:=Nat.exists_testBit_of_ne_zero (show n.toNat≠0 by have:=h.1; lia);exact⟨[i - 1],i - 1,rfl,h.1,by lia,by ext⟩| d+1,n,h,f=>by obtain⟨j,b,c,_⟩:=W.aZ h;cases e:aZ G n with| nil=>ext| cons p ps=>
   have a:p∈aZ G n:=by ext
   obtain⟨r,g⟩:=mem_some W d _ (j.num p a) (b p a);exact⟨p.1::r,p.1,r,p.2,rfl,a,g⟩
noncomputable def live (ps:fM):fM:=ps.filter λp=>decide (p.2≠0)
theorem m5.live (h:m5 G d ps):m5 G d (kg.live ps):=⟨h.rise.filter _,λp a=>h.fld p (zAt.mp a).1,λp a=>h.num p (zAt.mp a).1⟩
theorem RJ (h:p∈live ps):p∈ps/\p.2≠0:=by obtain⟨a,b⟩:=zAt.mp h;ext
noncomputable def Gs.new (G:Gs)(d:Nat)(ps:fM):Gs:=⟨G.m,G.B++[ps],G.D++[d]⟩
theorem Iz (W:WF G):Ext G (G.new e ps):=by
 refine⟨λi a h=>?_,λi k h=>?_,rfl,W⟩;·exact (zAg (q0.mp h).1).trans h
 ·exact (zAg (q0.mp h).1).trans h
theorem Kc:(G.new e ps).B[G.B.length]?=some ps:=by show (G.B++[ps])[G.B.length]?=_; simp
theorem PX (W:WF G):(G.new e ps).D[G.B.length]?=some e:=by show (G.D++[e])[G.B.length]?=_; rw[<-W.len]; simp
theorem WF.new (W:WF G)(h:m5 G d ps)(hz:∀p∈ps,p.2≠0)(b:ps≠[]):WF (G.new (d+1) ps):=by
 have x:Ext G (G.new (d+1) ps):=Iz W;refine⟨by simp [Gs.new,W.len],x.b _ _ W.zero,x.d _ _ W.top,λi j k a=>?_,W.few⟩;by_cases l:i < G.B.length
 ·rw[show (G.new _ ps).B=G.B++[ps] from rfl,zAg l] at a;obtain⟨m,f,o,c,g⟩:=W.ok i j k a;exact⟨m,x.d _ _ f,o,c.ext x,g⟩
 ·obtain rfl:i=G.B.length:=by have:=(q0.mp a).1;simp [Gs.new] at this;lia
  rw[Kc] at a;cases a;exact⟨d,PX W,b,h.ext x,hz⟩
noncomputable def Is (G:Gs)(d:Nat)(r:Int)(S:List Int->Prop):Prop:=Num G d r/\∀fs,Mem G d r fs↔S fs
noncomputable def Ah (G:Gs)(d:Nat)(ps:fM):List Int->Prop:=λfs=>∃f r p,fs=f::r/\(f,p)∈ps/\Mem G d p r
theorem Is.iff (h:Is G d r S)(e:∀fs,S fs↔S' fs):Is G d r S':=⟨h.1,λfs=>(h.2 fs).trans (e fs)⟩
theorem RK (W:WF G)(h:live ps=[]):Is G (d+1) 0 (Ah G d ps):=by refine⟨.zero,λfs=>⟨λh=>absurd h (cE W),?_⟩⟩;rintro⟨f,r,p,e,b,a⟩;have:(f,p)∈live ps:=zAt.mpr ⟨b,j2 λz:p=0=>by rw[z] at a; exact cE W a⟩;rw[h] at this;cases this
theorem IA (W:WF G){i:Nat}(h:1<=i)(j:G.B[i]?=some (live ps))(g:G.D[i]?=some (d+1)):Is G (d+1) (i:Int) (Ah G d ps):=by
 refine⟨.inr ⟨by lia,g⟩,λfs=>?_⟩;have c:aZ G i=live ps:=by unfold aZ; ext
 show (∃f r p,fs=f::r/\(f,p)∈aZ G _/\Mem G d p r)↔_;rw[c];constructor <;> rintro⟨f,r,p,e,b,a⟩;·exact⟨f,r,p,e,(RJ b).1,a⟩
 ·exact⟨f,r,p,e,zAt.mpr ⟨b,j2 λz:p=0=>by rw[z] at a; exact cE W a⟩,a⟩
theorem Is.ext (h:Is G d r S)(x:Ext G G'):Is G' d r S:=⟨h.1.ext x,λfs=>(bX x d r fs h.1).trans (h.2 fs)⟩
theorem Ah.ext (x:Ext G G')(h:m5 G d ps)(fs:List Int):Ah G' d ps fs↔Ah G d ps fs:=by
 constructor <;> rintro⟨f,r,p,e,a,b⟩;·exact⟨f,r,p,e,a,(bX x d p r (h.num _ a)).mp b⟩
 ·exact⟨f,r,p,e,a,(bX x d p r (h.num _ a)).mpr b⟩
theorem is_none (W:WF G)(h:Is G d r S)(c:∀fs,¬ S fs):r=0:=by
 by_cases b:r=0;·symm
 ·obtain⟨fs,a⟩:=mem_some W d r h.1 b;exact absurd ((h.2 fs).mp a) (c fs)
theorem Cu:∀(n:Nat) (l:List Nat),l.Nodup->(∀x∈l,x < n)->l.length<=n
 | 0,l,_,h=>by cases l with| nil=>simp| cons x f=>exact absurd (h x zAc) (Nat.not_lt_zero _)
 | n+1,l,a,h=>by
  have b:=Cu n _ (a.erase n) λx c=>by grind
  grind
theorem lB {m:Nat}(a:(ps.map (·.1)).Nodup)(h:∀p∈ps,-1<=p.1/\p.1 < m):ps.length<=m+1:=by
 have b:=Cu (m+1) ((ps.map (·.1)).map λk=>(k+1).toNat) ?_ ?_;·ext
 ·rw[List.Nodup,zAh];refine List.Pairwise.imp_of_mem ?_ a;grind
 grind
theorem m5.nd (h:m5 G d ps):(ps.map (·.1)).Nodup:=zAh.mpr (h.rise.imp λh=>Int.ne_of_lt h)
theorem m5.len (h:m5 G d ps):ps.length<=G.m+1:=lB h.nd h.fld
noncomputable def cK (ps:fM)(f:Int):Int:=((ps.find? λp=>decide (p.1=f)).map (·.2)).getD 0
theorem pD (h:(ps.map (·.1)).Nodup)(a:(f,p)∈ps):cK ps f=p:=by induction ps with| nil=>ext| cons q c b=>
  rw[zAw,zB6] at h;unfold cK;rw[zBr];rcases u1.mp a with e | e;·grind
  ·rw[zAx (by grind)];exact b h.2 e
theorem tO (h:cK ps f≠0):(f,cK ps f)∈ps:=by unfold cK at h ⊢;cases e:ps.find? _ with| none=>ext| some p=> grind
theorem FF (h:m5 G d ps)(f:Int):Num G d (cK ps f):=by
 by_cases a:cK ps f=0;·rw[a]; exact .zero
 ·exact h.num _ (tO a)
noncomputable def mO (ps:fM)(f r:Int):fM:=if ps.any (λp=>decide (p.1=f)) then ps.map (λp=>if p.1=f then (p.1,r) else p) else ps++[(f,r)]
theorem wg (f r:Int)(h:(ps.map (·.1)).Nodup):((mO ps f r).map (·.1)).Nodup/\∀g,g∈(mO ps f r).map (·.1)↔g=f\/g∈ps.map (·.1):=by
 unfold mO;split <;> rename_i a
 ·have e:(ps.map λp=>if p.1=f then (p.1,r) else p).map (·.1)=ps.map (·.1):=by rw[zAa];refine List.map_congr_left λp _=>?_;show (if p.1=f then (p.1,r) else p).1=p.1;split <;> rfl
  rw[e];refine⟨h,λg=>⟨.inr,λi=>?_⟩⟩;rcases i with rfl | i
  ·obtain⟨p,j,b⟩:=List.any_eq_true.mp a;exact xL.mpr ⟨p,j,zAi b⟩
  ·exact i
 ·rw[v4];refine⟨?_,λg=>by simp [or_comm]⟩;rw[List.nodup_append];refine⟨h,by simp,λx k y l z=>a ?_⟩;have c:y=f:=by simpa using l
  obtain⟨p,j,b⟩:=xL.mp k;exact List.any_eq_true.mpr ⟨p,j,j2 (by rw[b,z,c])⟩
noncomputable def kP (G:Gs)(d:Nat)(n b:Int):List Int->Prop:=λfs=>Mem G d n fs/\∃f g,fs=f::g/\bit b f
noncomputable def j3 (G:Gs)(d:Nat)(a b:Int):List Int->Prop:=λfs=>Mem G d a fs/\Mem G d b fs
noncomputable def ja (G:Gs)(d:Nat)(a b:Int):List Int->Prop:=λfs=>Mem G d a fs\/Mem G d b fs
theorem LY (fs:List Int):Ah G d ((aZ G n).filter λp=>decide (bit b p.1)) fs↔kP G (d+1) n b fs:=by
 constructor
 ·rintro⟨f,r,p,e,c,a⟩;obtain⟨g,h⟩:=zAt.mp c;exact⟨⟨f,r,p,e,g,a⟩,f,r,e,zAi h⟩
 ·rintro⟨⟨f,r,p,e,c,a⟩,j,i,k,l⟩;exact⟨f,r,p,e,(by ext),a⟩
theorem LZ (a b:Int):((if b < a then b else a)=a/\(if b > a then b else a)=b)\/((if b < a then b else a)=b/\(if b > a then b else a)=a):=by lia
noncomputable def Ai (G:Gs)(a b r:Int):Prop:=0<=b/\b.toNat < G.B.length/\∀d,Num G (d+1) a->Num G (d+1) b->Is G (d+1) r (ja G (d+1) a b)
noncomputable def Aj (G:Gs)(a b r:Int):Prop:=0<=b/\b.toNat < G.B.length/\∀d,Num G (d+1) a->Num G (d+1) b->Is G (d+1) r (j3 G (d+1) a b)
noncomputable def Cv (G:Gs)(a b r:Int):Prop:=∀d,Num G (d+1) a->Is G (d+1) r (kP G (d+1) a b)
variable {a b:Int}
theorem qW (x:Ext G G')(h:Num G d a)(fs:List Int):kP G d a b fs↔kP G' d a b fs:=by unfold kP; rw[bX x _ _ _ h]
theorem qu (x:Ext G G')(f:Num G d a)(c:Num G d b)(fs:List Int):j3 G d a b fs↔j3 G' d a b fs:=by unfold j3; rw[bX x _ _ _ f,bX x _ _ _ c]
theorem o7 (x:Ext G G')(f:Num G d a)(c:Num G d b)(fs:List Int):ja G d a b fs↔ja G' d a b fs:=by unfold ja; rw[bX x _ _ _ f,bX x _ _ _ c]
theorem Ai.ext (x:Ext G G')(f:a.toNat < G.B.length)(h:Ai G a b r):Ai G' a b r:=⟨h.1,wS h.2.1 x.len,λd c g=>((h.2.2 d (c.back x f) (g.back x h.2.1)).ext x).iff (o7 x (c.back x f) (g.back x h.2.1))⟩
theorem Aj.ext (x:Ext G G')(f:a.toNat < G.B.length)(h:Aj G a b r):Aj G' a b r:=⟨h.1,wS h.2.1 x.len,λd c g=>((h.2.2 d (c.back x f) (g.back x h.2.1)).ext x).iff (qu x (c.back x f) (g.back x h.2.1))⟩
theorem Cv.ext (x:Ext G G')(f:a.toNat < G.B.length)(h:Cv G a b r):Cv G' a b r:= λd c=>((h d (c.back x f)).ext x).iff (qW x (c.back x f))
theorem UU (x:Ext G G')(c:WF G')(g:Num G (d+1) a)(h:Is G' (d+1) r (kP G (d+1) a b)):Cv G' a b r:=λe i=>by
 by_cases f:a=0
 ·subst f;obtain rfl:=is_none c h λfs j=>cE x.w j.1;exact⟨.zero,λfs=>⟨λq=>absurd q (cE c),λq=>absurd q.1 (cE c)⟩⟩
 ·obtain rfl:=(g.ext x).depth i f;exact h.iff (qW x g)
theorem UW (x:Ext G G')(p:WF G')(f:Num G (d+1) a)(g:Num G (d+1) b)(s:a≠0)(i:(lo=a/\j=b)\/(lo=b/\j=a))(h:Is G' (d+1) r (j3 G (d+1) a b)):0<=lo/\lo.toNat < G'.B.length/\Aj G' lo j r:=by
 have o:=(p.aZ (f.ext x)).2.2.2;have m:=(p.aZ (g.ext x)).2.2.2;have c:∀e,Num G' (e+1) a->Is G' (e+1) r (j3 G' (e+1) a b):=λe q=>by obtain rfl:=(f.ext x).depth q s;exact h.iff (qu x f g)
 rcases i with ⟨rfl,rfl⟩ | ⟨rfl,rfl⟩;·exact⟨f.nonneg,o,g.nonneg,m,λe k l=>c e k⟩
 ·exact⟨g.nonneg,m,f.nonneg,o,λe k l=>(c e l).iff λfs=>And.comm⟩
theorem UX (x:Ext G G')(p:WF G')(f:Num G (d+1) a)(g:Num G (d+1) b)(s:a≠0)(i:(lo=a/\j=b)\/(lo=b/\j=a))(h:Is G' (d+1) r (ja G (d+1) a b)):0<=lo/\lo.toNat < G'.B.length/\Ai G' lo j r:=by
 have o:=(p.aZ (f.ext x)).2.2.2;have m:=(p.aZ (g.ext x)).2.2.2;have c:∀e,Num G' (e+1) a->Is G' (e+1) r (ja G' (e+1) a b):=λe q=>by obtain rfl:=(f.ext x).depth q s;exact h.iff (o7 x f g)
 rcases i with ⟨rfl,rfl⟩ | ⟨rfl,rfl⟩;·exact⟨f.nonneg,o,g.nonneg,m,λe k l=>c e k⟩
 ·exact⟨g.nonneg,m,f.nonneg,o,λe k l=>(c e l).iff λfs=>Or.comm⟩
noncomputable def cB (m:Nat):Nat->Nat| 0=>0| d+1=>2+(m+1) * cB m d
end
theorem Og (a b:Nat):Builtin.bitAnd (a:Int) (b:Int)=((a&&& b:Nat):Int):=by rfl
theorem yZ (a:Nat):Builtin.bitNot (Builtin.bitNot (a:Int))=(a:Int):=by unfold Builtin.bitNot;lia
theorem FG (a:Nat):Builtin.bitNot (a:Int) < 0:=by unfold Builtin.bitNot;lia
theorem RL (a b:Nat):Builtin.bitOr (a:Int) (b:Int)=((a||| b:Nat):Int):=by unfold Builtin.bitOr Builtin.bitAnd;have e:=FG a;have f:=FG b;rw[zAx (by ext),zAx (by ext)];have c:=yZ a;have d:=yZ b;rw[c,d];exact yZ _
theorem xM (d:0<=x)(c:0<=y):0<=Builtin.bitAnd x y/\∀f,bit (Builtin.bitAnd x y) f↔bit x f/\bit y f:=by obtain⟨a,rfl⟩:=zBd d;obtain⟨b,rfl⟩:=zBd c;rw[Og];simp [bit];intros;exact and_and_left
theorem FH (d:0<=x)(c:0<=y):0<=Builtin.bitOr x y/\∀f,bit (Builtin.bitOr x y) f↔bit x f\/bit y f:=by obtain⟨a,rfl⟩:=zBd d;obtain⟨b,rfl⟩:=zBd c;rw[RL];simp [bit,and_or_left]
noncomputable def dJ (f:Int):Int:=2 ^ (f+1).toNat
theorem Cw (f:Int):dJ f=((2 ^ (f+1).toNat:Nat):Int):=by rfl
theorem lN (f:Int):0 < dJ f:=Int.pow_pos (by decide)
theorem lC (a:-1<=f)(g:Int):bit (dJ f) g↔g=f:=by unfold bit;rw[Cw,zA3,Nat.testBit_two_pow,decide_eq_true_iff];exact⟨λh=>by lia,λh=>⟨Int.natCast_nonneg _,h ▸ a,h ▸ rfl⟩⟩
theorem wh {m:Nat}(c:n < 2 ^ (m+1))(h:bit n f):f < m:=by
 obtain⟨d,i,b⟩:=h;obtain⟨a,rfl⟩:=zBd d;rw[zA3] at b;have e:a < 2 ^ (m+1):=by
  have:(a:Int) < ((2 ^ (m+1):Nat)):=by simpa using c
  lia
 by_cases g:(f+1).toNat < m+1;·ext
 ·have:a < 2 ^ (f+1).toNat:=wS e (zBz (by decide) (by lia));rw[Nat.testBit_lt_two_pow this] at b;cases b
theorem n_ {m:Nat}(b:0<=n)(h:∀f,bit n f->f < m):n < 2 ^ (m+1):=by
 obtain⟨a,rfl⟩:=zBd b;have:a < 2 ^ (m+1):=by refine Nat.lt_pow_two_of_testBit a λi c=>?_;cases e:a.testBit i with| false=>rfl| true=> have:=h (i - 1) ⟨by symm,by lia,by ext⟩;lia
 grind
theorem tP (h:bit n f):n≠0:=by rintro rfl;obtain⟨_,_,h⟩:=h;ext
theorem UY (a:0<=n)(h:n≠0):∃f,bit n f:=by
 have:n.toNat≠0:=by lia
 obtain⟨i,b⟩:=Nat.exists_testBit_of_ne_zero this;exact⟨i - 1,a,by lia,by ext⟩
theorem Oh (c:-1<=f)(i:0<=y):(Builtin.bitAnd (dJ f) y != 0)=decide (bit y f):=by
 obtain⟨d,a⟩:=xM (zC3 (lN f)) i;rw[zC6,decide_eq_true_iff,bne_iff_ne];constructor
 ·intro h;obtain⟨g,e⟩:=UY d h;obtain⟨b,j⟩:=(a g).mp e;rw[lC c] at b;rw[<-b];symm
 ·intro h;exact tP ((a f).mpr ⟨(lC c f).mpr rfl,h⟩)
noncomputable def i9 (n:Int):Int:=(Builtin.Int.intBits (Builtin.bitAnd n (-n)):Int) - 2
theorem Hz:∀a:Fin 64,a.1≠0->bit (a.1:Int) (i9 (a.1:Int))/\∀j:Fin 7,((j.1:Int) - 1) < i9 (a.1:Int)->¬ bit (a.1:Int) ((j.1:Int) - 1):=by decide +kernel
theorem Oi (l:m<=5)(d:0<=n)(i:n < 2 ^ (m+1))(h:n≠0):bit n (i9 n)/\∀f,bit n f->i9 n<=f:=by
 obtain⟨a,rfl⟩:=zBd d;have p:(2:Int) ^ (m+1)<=64:=by have:(2) ^ (m+1)<=2 ^ 6:=zBz (by decide) (by ext);grind
 have c:a < 64:=by lia
 obtain⟨k,g⟩:=Hz ⟨a,c⟩ (by ext);refine⟨k,λf b=>?_⟩;have e:=wh i b;have j:=b.2.1;by_cases o:i9 a<=f;·symm
 ·have:=g ⟨(f+1).toNat,by lia⟩ (by grind);grind
end kg
namespace L2
open PySem PySem.Spec PyProof.Rows
section
variable {K:zzA}{ix:List (Option Nat)}{te:TE}{g:TG}{tf:TT}{σ:St}{H1:Hp}{Q:M1->Hp->Prop}
noncomputable def Xy (g:TG)(tf:TT)(te:TE)(σ:St)(x:V)(H:Hp)(R:VK)(d:Hp->Prop):Prop:=g x σ H λa e=>tf a e λb c=>if b=true then te a c R else d c
theorem o8 (hz:xs.length < PK)(b:M1->Nat->List V->Hp->Prop)(n:∀D i ys H,b D i ys H->ay K H a xs/\ys.length<=i)(A:∀D,H1 D=none->b D 0 [] (upd H1 D (.lst [])))(t:∀D i ys H x (R:VK) (k:Hp->Prop),H1 D=none->b D i ys H->H D=some (.lst ys)->xs[i]?=some x->(∀v f,f D=some (.lst ys)->b D (i+1) (ys++[v]) (upd f D (.lst (ys++[v])))->R v f)->(∀h,h D=some (.lst ys)->b D (i+1) ys h->k h)->Xy g tf te (dS ix σ) x H R k)(r:∀D ys H,H1 D=none->b D xs.length ys H->H D=some (.lst ys)->Q D H):cL (mW K a) ix g tf te σ H1 Q:=by
 intro D l;refine⟨λi m ys H=>m=xs.length - i/\i<=xs.length/\b D i ys H,(by ext),?_⟩;rintro i m ys H ⟨rfl,z,p⟩ d;obtain⟨j,u⟩:=n D i ys H p;by_cases c:i < xs.length
 ·have o:=y8 c;refine .inr ⟨⟨xs,xs[i],j,o⟩,λv w y=>?_⟩;obtain⟨rfl,s⟩:=y;exact t D i ys _ v _ _ l p d (s xs j) (λv f e q=>⟨e,by lia,xs.length - (i+1),by grind,rfl,c,q⟩) λh e q=>⟨e,xs.length - (i+1),by grind,rfl,c,q⟩
 ·have e:i=xs.length:=by lia
  subst e;exact .inl ⟨⟨xs,j,y6 _⟩,r D ys H l p d⟩
theorem wj (hz:xs.length < PK)(b:M1->Nat->List V->Hp->Prop)(n:∀D i ys H,b D i ys H->aG K H a xs/\ys.length<=i)(A:∀D,H1 D=none->b D 0 [] (upd H1 D (.lst [])))(t:∀D i ys H x (R:VK) (k:Hp->Prop),H1 D=none->b D i ys H->H D=some (.lst ys)->xs[i]?=some x->(∀v f,f D=some (.lst ys)->b D (i+1) (ys++[v]) (upd f D (.lst (ys++[v])))->R v f)->(∀h,h D=some (.lst ys)->b D (i+1) ys h->k h)->Xy g tf te (dS ix σ) x H R k)(r:∀D ys H,H1 D=none->b D xs.length ys H->H D=some (.lst ys)->Q D H):cL (zA K a) ix g tf te σ H1 Q:=by
 intro D l;refine⟨λi m ys H=>m=xs.length - i/\i<=xs.length/\b D i ys H,(by ext),?_⟩;rintro i m ys H ⟨rfl,z,p⟩ d;obtain⟨j,u⟩:=n D i ys H p;by_cases c:i < xs.length
 ·have o:=y8 c;refine .inr ⟨⟨xs,xs[i],j,o⟩,λv w y=>?_⟩;obtain⟨rfl,s⟩:=y;exact t D i ys _ v _ _ l p d (s xs j) (λv f e q=>⟨e,by lia,xs.length - (i+1),by grind,rfl,c,q⟩) λh e q=>⟨e,xs.length - (i+1),by grind,rfl,c,q⟩
 ·have e:i=xs.length:=by lia
  subst e;exact .inl ⟨⟨xs,j,y6 _⟩,r D ys H l p d⟩
end
end L2
namespace WD
open PySem PySem.Spec PyProof.Rows L2 kg TB
structure Tk (H H':Hp):Prop where
 tp:∀b xs,H b=some (.tup xs)->H' b=some (.tup xs)
 fz:∀b o u,H b=some (.jo o u)->H' b=some (.jo o u)
section
variable {P:zAA}{w:zAE}{K:zzA}{H H' H2:Hp}{a b c p:M1}{o:HO}{xs:List V}
theorem Tk.refl:Tk H H:=⟨λ_ _ h=>h,λ_ _ _ h=>h⟩
theorem Tk.trans (x:Tk H H')(y:Tk H' H2):Tk H H2:=⟨λb xs h=>y.tp b xs (x.tp b xs h),λb o u h=>y.fz b o u (x.fz b o u h)⟩
theorem Tk.same (s:ah H H'):Tk H H':=⟨λb xs h=>s _ _ h,λb o u h=>s _ _ h⟩
theorem Tk.put (d:eX (H c)):Tk H (upd H c o):=⟨λb xs h=>by rw[aD (λz=>by rw[<-z,h] at d; symm)]; symm,λb o u h=>by rw[aD (λz=>by rw[<-z,h] at d; symm)]; symm⟩
theorem Tk.tup (x:Tk H H')(h:aG K H a xs):aG K H' a xs:=by
 rcases h with (h | ⟨o,h⟩) | h;·exact .inl (.inl (x.tp _ _ h))
 ·exact .inl (.inr ⟨o,x.fz _ _ _ h⟩)
 ·exact .inr h
theorem Tk.ft (x:Tk H H')(h:FT H a xs):FT H' a xs:=h.imp λo h=>⟨h.1,x.fz _ _ _ h.2⟩
noncomputable def FL (H:Hp)(a:M1)(xs:List V):Prop:=∃o,H a=some (.jo o (.lst xs))
theorem FL.sq (h:FL H a xs):ay K H a xs:=.inl (.inr h)
theorem Tk.fl (x:Tk H H')(h:FL H a xs):FL H' a xs:=h.imp λo h=>x.fz _ _ _ h
theorem dm (s:ah H H')(b:M1)(h:H b≠none):H' b≠none:=λz=>by cases e:H b with| none=>ext| some o=>rw[s _ _ e] at z; ext
theorem nF (b:M1)(h:H b≠none):upd H c o b≠none:=λz=>by
 by_cases e:b=c;·rw[e,aq] at z; ext
 ·rw[aD e] at z; exact h z
abbrev Sm:=Gs->Hp->Dt->V->Prop
inductive Kd| br | mm (S:Sm) | dk (S:Gs->Int->V->Prop)
abbrev Mp:=M1->Option Kd
structure Kw (M:Mp)(H H':Hp):Prop where
 tk:Tk H H'
 keep:∀b o,H b=some o->M b=none->H' b=some o
 live:∀b,H b≠none->H' b≠none
abbrev q1 (q:M1 × Int × Int):V:=.ref q.1
noncomputable def kQ (K:zzA)(H:Hp)(d:List (M1 × Int × Int)):Prop:=∀q∈d,aG K H q.1 [.int q.2.1,.int q.2.2]
theorem kQ.tk (h:kQ K H d)(x:Tk H H'):kQ K H' d:=λq e=>x.tup (h q e)
noncomputable def Br (K:zzA)(H:Hp)(t:M1)(ps:fM):Prop:=∃d:List (M1 × Int × Int),d.map (·.2)=ps/\aG K H t (d.map q1)/\(ps≠[]->FT H t (d.map q1))/\kQ K H d
theorem Br.tk (h:Br K H t ps)(x:Tk H H'):Br K H' t ps:=by obtain⟨i,e,d,g,f⟩:=h;exact⟨i,e,x.tup d,λz=>x.ft (g z),f.tk x⟩
noncomputable def y9 (S:Sm):Prop:=∀G e H H' d v,S G H d v->Ext G e->Tk H H'->S e H' d v
noncomputable def rW (K:zzA)(P:zAA)(w:zAE)(G:Gs)(L:Nat)(H:Hp)(a:M1):Kd->Prop| .br=>∃f:List M1,H a=some (.lst (f.map V.ref))/\f.length=G.B.length/\∀(i:Nat) (t:M1) (h:fM),f[i]?=some t->G.B[i]?=some h->Br K H t h| .mm S=>y9 S/\∃mm,bE K P w H a mm L/\∀d v,mm d=some v->S G H d v| .dk S=>(∀G g n v,S G n v->Ext G g->S g n v)/\∃e:List (Key × V),H a=some (.dK e)/\e.length<=L/\∀n v,dF e (.inl n)=some v->S G n v
structure Wd (K:zzA)(P:zAA)(w:zAE)(M:Mp)(G:Gs)(L:Nat)(H:Hp):Prop where
 kd:∀a k,M a=some k->rW K P w G L H a k
 wf:WF G
 few:G.B.length<=L+1
 ub:∀a b,M a=some .br->M b=some .br->a=b
variable {M M':Mp}{G G':Gs}{L L':Nat}{k:Kd}
theorem Kw.refl:Kw M H H:=⟨.refl,λ_ _ e _=>e,λ_ h=>h⟩
theorem Kw.same (s:ah H H'):Kw M H H':=⟨.same s,λb o e _=>s b o e,dm s⟩
theorem Kw.trans (x:Kw M H H')(y:Kw M H' H2):Kw M H H2:=⟨x.tk.trans y.tk,λb o e m=>y.keep b o (x.keep b o e m) m,λb h=>y.live b (x.live b h)⟩
theorem Kw.st (x:Kw M H H')(s:ah H' H2):Kw M H H2:=x.trans (.same s)
theorem Kw.put (f:M a=some k)(d:eX (H a)):Kw M H (upd H a o):=⟨.put d,λb u e m=>by rw[aD (λz=>by ext)]; symm,nF⟩
theorem Kw.free (x:Kw M H H')(h:H' b=none):H b=none:=by cases e:H b with| none=>rfl| some o=>exact absurd h (x.live b (by ext))
theorem Kw.UZ (x:Kw M d H)(g:d p=none)(f:eX (H p)):Kw M d (upd H p o):=⟨x.tk.trans (.put f),λb u e m=>by rw[aD (aS e g)]; exact x.keep b u e m,λb h=>nF b (x.live b h)⟩
theorem bE.there (h:bE K P w H a d n):∃o,H a=some o:=by obtain⟨f,e,_⟩:=h;ext
theorem rW.mut (h:rW K P w G L H a k):eX (H a):=by cases k with| br=>obtain⟨f,e,_⟩:=h; rw[e]; exact True.intro| mm S=>exact h.2.choose_spec.1.mut| dk S=>obtain⟨_,d,e,_⟩:=h; rw[e]; exact True.intro
theorem rW.some (h:rW K P w G L H a k):∃o,H a=some o:=by cases k with| br=>obtain⟨f,e,_⟩:=h; ext| mm S=>exact bE.there h.2.choose_spec.1| dk S=>obtain⟨_,d,e,_⟩:=h; ext
theorem rW.keep (h:rW K P w G L H a k)(e:H' a=H a)(x:Ext G G')(m:k=.br->G'=G)(tk:Tk H H')(A:L<=L'):rW K P w G' L' H' a k:=by cases k with| br=> obtain⟨r,f,g,j⟩:=h;rw[m rfl];exact⟨r,e.trans f,g,λi t s y z=>(j i t s y z).tk tk⟩| mm S=> obtain⟨f,mm,g,j⟩:=h;exact⟨f,mm,(g.keep e λq xs h=>tk.tup h).le A,λd v z=>f _ _ _ _ d v (j d v z) x tk⟩| dk S=> obtain⟨f,l,g,j,u⟩:=h;exact⟨f,l,e.trans g,by lia,λn v z=>f _ _ n v (u n v z) x⟩
theorem Wd.chg (W:Wd K P w M G L H)(f:Tk H H')(e:∀a k,M a=some k->H' a=H a)(d:L<=L'):Wd K P w M G L' H':=⟨λa k m=>(W.kd a k m).keep (e a k m) (.refl W.wf) (by simp) f d,W.wf,by have:=W.few; lia,W.ub⟩
theorem Wd.same (W:Wd K P w M G L H)(s:ah H H'):Wd K P w M G L H':=W.chg (.same s) (λa k m=>by obtain⟨o,e⟩:=(W.kd a k m).some;rw[e]; exact s _ _ e) (y6 _)
theorem Wd.le (W:Wd K P w M G L H)(h:L<=L'):Wd K P w M G L' H:=W.chg .refl (by simp) h
theorem Wd.aside (W:Wd K P w M G L H)(m:M c=none)(d:eX (H c)):Wd K P w M G L (upd H c o):=W.chg (.put d) (λa k e=>aD λz=>by ext) (y6 _)
theorem Wd.put (W:Wd K P w M G L H)(m:M a=some k)(f:L<=L')(n:rW K P w G L' (upd H a o) a k):Wd K P w M G L' (upd H a o):=⟨λb j d=>by
 by_cases e:b=a
 ·subst e;rw[m] at d;cases d;symm
 ·exact (W.kd b j d).keep (aD e) (.refl W.wf) (by simp) (.put (W.kd a k m).mut) f,W.wf,by have:=W.few; lia,W.ub⟩
theorem Wd.off (W:Wd K P w M G L H)(h:H p=none):M p=none:=by cases e:M p with| none=>rfl| some k=> obtain⟨o,z⟩:=(W.kd p k e).some;ext
structure Go (K:zzA)(P:zAA)(w:zAE)(M:Mp)(G:Gs)(H:Hp)(L':Nat)(G':Gs)(H':Hp):Prop where
 wd:Wd K P w M G' L' H'
 ex:Ext G G'
 kw:Kw M H H'
theorem Wd.go (W:Wd K P w M G L H)(s:ah H H')(h:L<=L'):Go K P w M G H L' G H':=⟨(W.same s).le h,.refl W.wf,.same s⟩
theorem Go.pre (x:Go K P w M G H L' G' H')(s:ah d H):Go K P w M G d L' G' H':=⟨x.wd,x.ex,(Kw.same s).trans x.kw⟩
theorem Go.st (x:Go K P w M G H L' G' H')(s:ah H' H2):Go K P w M G H L' G' H2:=⟨x.wd.same s,x.ex,x.kw.st s⟩
theorem Go.trans (x:Go K P w M G H L' G' H')(y:Go K P w M G' H' e d H2):Go K P w M G H e d H2:=⟨y.wd,x.ex.trans y.ex,x.kw.trans y.kw⟩
theorem Go.le (x:Go K P w M G H L G' H')(h:L<=L'):Go K P w M G H L' G' H':=⟨x.wd.le h,x.ex,x.kw⟩
theorem Go.own (x:Go K P w M G H L G' H')(e:H p=none)(m:M p=none)(d:eX (H' p)):Go K P w M G H L G' (upd H' p o):=⟨x.wd.aside m d,x.ex,x.kw.UZ e d⟩
structure Ex (M M':Mp)(H:Hp):Prop where
 old:∀a k,M a=some k->M' a=some k
 new:∀a,H a≠none->M a=none->M' a=none
theorem Ex.trans {M2:Mp}(x:Ex M M' H)(y:Ex M' M2 H')(d:∀b,H b≠none->H' b≠none):Ex M M2 H:=⟨λa k e=>y.old a k (x.old a k e),λa h e=>y.new a (d a h) (x.new a h e)⟩
theorem Kw.ex (x:Kw M H H')(e:∀a k,M a=some k->M' a=some k):Kw M' H H':=⟨x.tk,λb o h m=>x.keep b o h (by cases z:M b with| none=>rfl| some k=>ext),x.live⟩
noncomputable def iL (M:Mp)(p:M1)(k:Kd):Mp:=λa=>if a=p then some k else M a
theorem lO:iL M p k p=some k:=v6 rfl
theorem jb (h:a≠p):iL M p k a=M a:=xI h
theorem Ex.add (W:Wd K P w M G L H)(d:H p=none):Ex M (iL M p k) H:=⟨λa j e=>by rw[jb (λz=>by rw[z,W.off d] at e; ext)]; symm,λa h e=>by rw[jb (λz=>by ext)]; symm⟩
theorem Wd.add (W:Wd K P w M G L H)(n:rW K P w G L H p k)(d:k≠.br):Wd K P w (iL M p k) G L H:=by
 have br:∀a,iL M p k a=some .br->M a=some _:=λa e=>by
  by_cases c:a=p;·rw[c,lO] at e; ext
  ·rw[jb c] at e; symm
 refine⟨λa j m=>?_,W.wf,W.few,λa b x y=>W.ub a b (br a x) (br b y)⟩;by_cases c:a=p
 ·subst c;rw[lO] at m;cases m;symm
 ·rw[jb c] at m;exact W.kd a j m
structure Kx (p:M1)(H H':Hp):Prop where
 tk:Tk H H'
 keep:∀b o,H b=some o->b≠p->H' b=some o
 live:∀b,H b≠none->H' b≠none
theorem Kx.same (s:ah H H'):Kx p H H':=⟨.same s,λb o h _=>s b o h,dm s⟩
theorem Kx.trans (x:Kx p H H')(y:Kx p H' H2):Kx p H H2:=⟨x.tk.trans y.tk,λb o h n=>y.keep b o (x.keep b o h n) n,λb h=>y.live b (x.live b h)⟩
theorem Kx.put (d:eX (H p)):Kx p H (upd H p o):=⟨.put d,λb u h n=>by rw[aD n]; symm,nF⟩
theorem RM (s:Gv m σ H v)(r:∀H',Gv l σ H' (.ref p))(e:H p=some (.ins C i h))(W:Wd K P w M G L H)(u:M p=none)(c:gK K C)(n:aV K C f)(t:h.length < 1000)(k:∀H2,Wd K P w M G L H2->Kx p H H2->H2 p=some (.ins C i (eZ f v h))->D.nx σ H2):vE K l m f D σ H:=by
 refine s _ λx d=>r _ _ λq g=>⟨p,C,i,h,rfl,(d.trans g) _ _ e,c,n,t,?_⟩;have j:eX (q p):=by rw[(d.trans g) _ _ e]; exact True.intro
 exact k _ ((W.same (d.trans g)).aside u j) ((Kx.same (d.trans g)).trans (.put j)) aq
theorem Bu {h i:TE}{us:TS}{D:Ends}{σ:L2.St}{C g:M1}{d:List (Str × V)}{f:Str}{v:V}(l:Gv i σ H v)(m:∀H',Gv h σ H' (.ref p))(e:H p=some (.ins C g d))(W:Wd K P w M G L H)(q:M p=none)(c:gK K C)(n:aV K C f)(j:d.length < 1000)(k:∀H2,Wd K P w M G L H2->Kx p H H2->H2 p=some (.ins C g (eZ f v d))->us D σ H2):eY (vE K h i f) us D σ H:=RM l m e W q c n j k
theorem IB {s:TE}{D:Ends}{σ:L2.St}{C j:M1}{i:List (Str × V)}{f:Str}(S:Sm)(y:y9 S)(t:∀H',Gv s σ H' (.ref p))(e:H p=some (.ins C j i))(W:Wd K P w M G L H)(B:M p=none)(c:gK K C)(n:aV K C f)(u:i.length < 1000)(k:∀a M' H2,M' a=some (.mm S)->Ex M M' H->M' p=none->Wd K P w M' G L H2->Kx p H H2->H a=none->H2 p=some (.ins C j (eZ f (.ref a) i))->D.nx σ H2):vE K s (DB K P w) f D σ H:=by
 intro a o d x;have l:a≠p:=λz=>by ext
 refine t _ _ λq m=>⟨p,C,j,i,rfl,m _ _ ((ah.new d o) _ _ e),c,n,u,?_⟩;have g:=(ah.new d o).trans m;have r:eX (q p):=by rw[g _ _ e]; exact True.intro
 have h:iL M a (.mm S) p=none:=by rw[jb (Ne.symm l)]; symm
 have v:Wd K P w (iL M a (.mm S)) G L q:=(W.same g).add ⟨y,_,(x.same m).le (zAb _),λ_ _ z=>nomatch z⟩ nofun;exact k a _ _ lO (.add W d) h (v.aside h r) ((Kx.same g).trans (.put r)) d aq
theorem tQ {h:TE}{us:TS}{D:Ends}{σ:L2.St}{C g:M1}{d:List (Str × V)}{f:Str}(S:Sm)(l:y9 S)(j:∀H',Gv h σ H' (.ref p))(e:H p=some (.ins C g d))(W:Wd K P w M G L H)(m:M p=none)(c:gK K C)(n:aV K C f)(i:d.length < 1000)(k:∀a M' H2,M' a=some (.mm S)->Ex M M' H->M' p=none->Wd K P w M' G L H2->Kx p H H2->H a=none->H2 p=some (.ins C g (eZ f (.ref a) d))->us D σ H2):eY (vE K h (DB K P w) f) us D σ H:=IB S l j e W m c n i k
theorem bE.kx (h:bE K P w H a d n)(k:Kx p H H')(e:a≠p):bE K P w H' a d n:=by obtain⟨o,z⟩:=bE.there h;exact h.keep (by rw[z]; exact k.keep _ _ z e) λq xs h=>k.tk.tup h
theorem Oj {q:TE}{us:TS}{D:Ends}{σ:L2.St}{C l:M1}{h:List (Str × V)}{f:Str}(r:∀H',Gv q σ H' (.ref p))(e:H p=some (.ins C l h))(W:Wd K P w M G L H)(s:M p=none)(c:gK K C)(n:aV K C f)(t:h.length < 1000)(k:∀a H2,H a=none->bE K P w H2 a (λ_=>none) 0->Wd K P w M G L H2->Kx p H H2->H2 p=some (.ins C l (eZ f (.ref a) h))->us D σ H2):eY (vE K q (DB K P w) f) us D σ H:=by
 intro a o g v;have j:a≠p:=λz=>by ext
 refine r _ _ λu i=>⟨p,C,l,h,rfl,i _ _ ((ah.new g o) _ _ e),c,n,t,?_⟩;have d:=(ah.new g o).trans i;have m:eX (u p):=by rw[d _ _ e]; exact True.intro
 exact k a _ g (bE.kx (v.same i) (.put m) j) ((W.same d).aside s m) ((Kx.same d).trans (.put m)) aq
theorem FI {m:TE}{us:TS}{D:Ends}{σ:L2.St}{C l:M1}{h:List (Str × V)}{f:Str}(v:∀H',Gv m σ H' (.ref p))(e:H p=some (.ins C l h))(W:Wd K P w M G L H)(t:M p=none)(c:gK K C)(n:aV K C f)(u:h.length < 1000)(k:∀a H2,H a=none->H2 a=some (.dK [])->Wd K P w M G L H2->Kx p H H2->H2 p=some (.ins C l (eZ f (.ref a) h))->us D σ H2):eY (vE K m Lv f) us D σ H:=by
 intro a g;have j:a≠p:=λz=>by ext
 have q:ah H (upd H a (.dK [])):=ah.new g _;refine v _ _ λs i=>⟨p,C,l,h,rfl,i _ _ (q _ _ e),c,n,u,?_⟩;have d:=q.trans i;have r:eX (s p):=by rw[d _ _ e]; exact True.intro
 exact k a _ g (by rw[aD j]; exact i _ _ aq) ((W.same d).aside t r) ((Kx.same d).trans (.put r)) aq
theorem d_ (h:Gv g σ H (.ref a))(e:H a=some (.ins C i d))(c:gK K C)(n:aV K C f)(l:d.lookup f=some v):Gv (kh K g f) σ H v:=λR r=>h _ λH' s=>⟨a,C,i,d,v,rfl,s _ _ e,c,n,l,r H' s⟩
theorem bQ {C s h:M1}{m:Str}{sp:Sp}{E:XK}{i:TE}{f:TA}{σ:L2.St}{R:VK}{e:List (Str × V)}(j:Gv i σ H (.ref s))(n:H s=some (.ins C h e))(l:e.lookup m=none)(k:∀d,ah H d->f σ d λvs H2=>sp (.ref s::(vs++[])) H2 R E):ud C m sp [] E i f σ H R:= j _ λd g=>⟨s,h,e,rfl,g _ _ n,l,k d g⟩
theorem IC {d:TE}{σ:L2.St}{R:List V->Hp->Prop}(h:d σ H λv e=>R [v] e):cA d dR σ H R:=h
theorem Ak {d:TE}{σ:L2.St}{R:VK}(h:d σ H λv e=>1<=PK/\∀p,e p=none->R (.ref p) (upd e p (.lst [v]))):A0 (cA d dR) σ H R:=h
theorem tR {e d:TE}{σ:L2.St}{R:VK}{v1:V}(h:Gv e σ H v1)(k:∀H',ah H H'->d σ H' λf H2=>2<=PK/\∀p,H2 p=none->R (.ref p) (upd H2 p (.tup [v1,f]))):vF (cA e (cA d dR)) σ H R:=h _ ‹_›
theorem qX {d:TE}{e:TA}{σ:L2.St}{R:List V->Hp->Prop}{v:V}(h:Gv d σ H v)(k:∀H',ah H H'->e σ H' λvs H2=>R (v::vs) H2):cA d e σ H R:=h _ ‹_›
theorem RN {f:TE}{g:TG}{e:TS}{D:Ends}{σ:L2.St}(h:Gv f σ H (.ref a))(j:aG K H a xs)(d:Nat->L2.St->Hp->Prop)(q:∀H',ah H H'->d 0 σ H')(n:∀i σ H,d i σ H->aG K H a xs)(r:∀i x σ H,xs[i]?=some x->d i σ H->g x σ H λt H2=>e { D with nx:=d (i+1),ct:=d (i+1),bk:=D.nx } t H2) (m:∀σ H,d xs.length σ H->D.nx σ H):lS (D8 K f) g e D σ H:= h _ λH' s=>⟨a,rfl,⟨xs,s.tup j⟩,QY d (q H' s) (λi σ H _ p=>n i σ H p) r m⟩
theorem Bv {f:TE}{g:TG}{e us:TS}{D:Ends}{σ:L2.St}(h:Gv f σ H (.ref a))(j:aG K H a xs)(d:Nat->L2.St->Hp->Prop)(q:∀H',ah H H'->d 0 σ H')(n:∀i σ H,d i σ H->aG K H a xs)(r:∀i x σ H,xs[i]?=some x->d i σ H->g x σ H λs H2=>e { D with nx:=d (i+1),ct:=d (i+1),bk:=us D } s H2) (m:∀σ H,d xs.length σ H->us D σ H):eY (lS (D8 K f) g e) us D σ H:= RN h j d q n r m
theorem Cy (j:Gv h σ H (.ref l))(g:H l=some (.lst xs))(m:∀H',ah H H'->Gv f σ H' y)(hz:xs.length < PK)(k:∀H',ah H H'->D.nx σ (upd H' l (.lst (xs++[y])))):zy (Ic K "list" A8 h (cA f dR)) D σ H:= j _ λi d=>⟨.inl ⟨rfl,_,ay.of (d _ _ g)⟩,m i d _ λH2 e=>⟨l,xs,y,rfl,rfl,(d.trans e) _ _ g,hz,k H2 (d.trans e)⟩⟩
theorem L0 {d e:TE}{us:TS}{D:Ends}{σ:L2.St}{l:M1}{y:V}(h:Gv d σ H (.ref l))(g:H l=some (.lst xs))(f:∀H',ah H H'->Gv e σ H' y)(hz:xs.length < PK)(k:∀H',ah H H'->us D σ (upd H' l (.lst (xs++[y])))):eY (zy (Ic K "list" A8 d (cA e dR))) us D σ H:= Cy h g f hz k
theorem nG (t:Gv j σ H (.ref a))(e:H a=some (.dK kvs))(n:∀H',ah H H'->Gv h σ H' (.int f))(m:∀H',ah H H'->Gv i σ H' z):Gv (Lw j h i) σ H ((dF kvs (.inl f)).getD z):= λR r=>t _ λs d=>⟨a,rfl,.inl ⟨kvs,.inl (d _ _ e)⟩,n s d _ λH2 g=>m H2 (d.trans g) _ λq l=>⟨_,nu.k (k:=.inl f) ((d.trans (g.trans l)) _ _ e),r q (d.trans (g.trans l))⟩⟩
theorem ID (h:Ga d σ H [.int i,.int j]):Gv (oN (λxs H Q=>∃i j,xs=[V.int i,V.int j]/\Q (V.int (if j < i then j else i)) H) d) σ H (.int (if j < i then j else i)):=λR r=>h _ λH' s=>⟨i,j,rfl,r H' s⟩
theorem IE (h:Ga d σ H [.int i,.int j]):Gv (oN (λxs H Q=>∃i j,xs=[V.int i,V.int j]/\Q (V.int (if j > i then j else i)) H) d) σ H (.int (if j > i then j else i)):=λR r=>h _ λH' s=>⟨i,j,rfl,r H' s⟩
theorem RO {i m l:TE}{us:TS}{D:Ends}{σ:L2.St}{e:Dt->Option V}{n:Nat}{d:Dt}{v:V}(y:Gv i σ H v)(r:∀H',ah H H'->Gv l σ H' (.ref a))(t:∀H',ah H H'->Gv m σ H' (.ref b))(A:bE K P w H a e n)(B:n < PK)(C:NK K H d b)(k:∀H' o,ah H H'->bE K P w (upd H' a o) a (λj=>if j=d then some v else e j) (n+1)->us D σ (upd H' a o)):eY (DA K P w l m i) us D σ H:= y _ λu f=>r u f _ λH2 g=>t H2 (f.trans g) _ λx z=>by have s:=f.trans (g.trans z);exact⟨a,rfl,e,n,d,b,A.same s,B,rfl,C.tups λq xs h=>s.tup h,λo h=>k x o s h⟩
theorem DF {d:Nat}:decide (V.int (d:Int)=V.int 0)=decide (d=0):=by simp
noncomputable def Post (K:zzA)(P:zAA)(w:zAE)(M:Mp)(G:Gs)(H:Hp)(p b a:M1)(i:Nat)(S:Sm)(d:Dt)(R:VK):L2.St->Hp->Prop:=λe H'=>∃G' L',Go K P w M G H L' G' H'/\e[0]?=some (some (.ref p))/\e[i]?=some (some (.ref b))/\(∃f v,bE K P w H' a f L'/\f d=some v/\S G' H' d v)/\∀v H2,ah H' H2->S G' H2 d v->R v H2
section
variable {i:Nat}{f:Str}{tb:TS}{te:TE}{D:Ends}{σ:L2.St}{C dx:M1}{fs:List (Str × V)}{S:Sm}{d:Dt}
theorem NK.same (h:NK K H d b)(x:Tk H H'):NK K H' d b:=h.tups λq xs h=>x.tup h
theorem pF (c:gK K C)(n:aV K C f)(l:fs.lookup f=some (.ref a))(x:H p=some (.ins C dx fs))(J:σ[0]?=some (some (.ref p)))(N:σ[i]?=some (some (.ref b)))(E:NK K H d b)(W:Wd K P w M G L H)(F:M a=some (.mm S))(mp:M p=none)(U:∀v j,ah H j->S G j d v->D.rt v j) (h1:∀j nx,ah H j->(∀q H',Post K P w M G H p b a i S d D.rt q H'->nx q H')->tb { D with nx:=nx } σ j) : eY (AW (tB (J2 K P w true (cF i) (kh K (cF 0) f))) tb xx) (D7 (J1 K P w (kh K (cF 0) f) (cF i))) D σ H:=by
 obtain⟨hS,mm,I,k2⟩:=W.kd _ _ F;have m:∀{q:L2.St} {H':Hp} {s:Dt->Option V} {v:V} {Q:Nat} {u:M1},q[0]?=some _->q[i]?=some _->H' p=some (.ins C u fs)->bE K P w H' a s Q->NK K H' d b->s d=some v->Gv (J1 K P w (kh K _ f) _) q H' v:= λt B eo hm y hv R r=>(d_ (aa t) eo c n l) _ λj g=>(aa B) _ λH2 h=>⟨a,_,rfl,⟨_,_,d,b,hm.same (g.trans h),rfl,NK.same y (.same (g.trans h)),hv.symm⟩,r H2 (g.trans h)⟩;refine eG (dY λR r=>(aa N) _ λj g=>(d_ (aa J) (g _ _ x) c n l) _ λH2 h=>⟨a,_,rfl,⟨mm,L,d,b,I.same (g.trans h),rfl,NK.same E (.same (g.trans h)),rfl⟩,r H2 (g.trans h)⟩) (λe j g=>?_) λe j g=>?_
 ·refine h1 j _ g λq H' hh=>?_;obtain⟨G',L',A,t,B,⟨s,v,X,T,Z⟩,Y⟩:=hh;have O:=m t B (A.kw.keep _ _ x mp) X (NK.same E A.kw.tk) T;exact bU O λH2 h=>Y v H2 h ((W.kd _ _ F).1 _ _ _ _ d v Z (.refl A.wd.wf) (.same h))
 ·cases z:mm d with| none=>rw[z] at e; cases e| some v=>exact bU (m J N (g _ _ x) (I.same g) (NK.same E (.same g)) z) λH2 h=>U v H2 (g.trans h) (hS _ _ _ _ d v (k2 d v z) (.refl W.wf) (.same (g.trans h)))
theorem tS {j:Hp}{x:Gs}{R:VK}{nx:L2.St->Hp->Prop}(c:gK K C)(n:aV K C f)(l:fs.lookup f=some (.ref a))(ob:j p=some (.ins C dx fs))(N:σ[0]?=some (some (.ref p)))(O:σ[i]?=some (some (.ref b)))(Y:NK K j d b)(E:M a=some (.mm S))(mp:M p=none)(hn:∀J H',Post K P w M x j p b a i S d R J H'->nx J H') (X:∀Q:VK,(∀v s G' L',Go K P w M x j L' G' s->L' < PK->S G' s d v->(∀h H2,Go K P w M x j (L'+1) G' H2->S G' H2 d h->R h H2)->Q v s)->te σ H Q) : DA K P w (kh K (cF 0) f) (cF i) te { D with nx:=nx } σ H:=by
 refine X _ λv s G' L' t hl hs hr=>(d_ (aa N) (t.kw.keep _ _ ob mp) c n l) _ λH2 W=>(aa O) _ λr I=>?_;have g:=t.st (W.trans I);have y:=NK.same Y g.kw.tk;obtain⟨B,mm,T,k2⟩:=g.wd.kd _ _ E;have q:Tk s r:=.same (W.trans I);refine⟨a,rfl,mm,L',d,b,T,hl,rfl,y,λo U=>?_⟩;have A:eX (r a):=T.mut;have m:S G' (upd r a o) d v:=B _ _ _ _ d v hs (.refl t.wd.wf) (q.trans (.put A));have W4:Wd K P w M G' (L'+1) (upd r a o):=g.wd.put E (zCg _) ⟨B,_,U,λF h z=>by
  by_cases e:F=d
  ·rw[v6 e] at z;rw[e,<-zAy z]; exact m
  ·rw[xI e] at z;exact B _ _ _ _ F h (k2 F h z) (.refl t.wd.wf) (.put A)⟩;have u:Go K P w M x j (L'+1) G' (upd r a o):=⟨W4,t.ex,g.kw.trans (.put E A)⟩;exact hn σ _ ⟨G',L'+1,u,N,O,⟨_,v,U,v6 rfl,m⟩,λh H5 Z h5=>hr h H5 (u.st Z) h5⟩
end
inductive F2 {α β:Type}(R:α->β->Prop):List α->List β->Prop| nil:F2 R [] []| cons {x:α} {y:β} {xs:List α} {ys:List β}:R x y->F2 R xs ys->F2 R (x::xs) (y::ys)
section
variable {α β:Type}{R R':α->β->Prop}{xs:List α}{ys:List β}
theorem F2.len (h:F2 R xs ys):xs.length=ys.length:=by induction h with| nil=>rfl| cons _ _ d=>ext
theorem F2.snoc (h:F2 R xs ys)(r:R x y):F2 R (xs++[x]) (ys++[y]):=by induction h with| nil=>exact .cons r .nil| cons q _ d=>exact .cons q d
theorem F2.imp (h:F2 R xs ys)(f:∀x y,R x y->R' x y):F2 R' xs ys:=by induction h with| nil=>exact .nil| cons q _ d=>exact .cons (f _ _ q) d
theorem F2.left (h:F2 R xs ys)(e:x∈xs):∃y∈ys,R x y:=by induction h with| nil=>ext| cons q _ d=> grind
theorem F2.right (h:F2 R xs ys)(e:y∈ys):∃x∈xs,R x y:=by induction h with| nil=>ext| cons q _ d=> grind
theorem F2.map {γ:Type}{f:α->γ}{g:β->γ}(h:F2 R xs ys)(e:∀x y,R x y->f x=g y):xs.map f=ys.map g:=by induction h with| nil=>rfl| cons q _ d=>grind
end
variable {qs gs:List (M1 × Int × Int)}{e c:Nat}{S:Int × Int->List Int->Prop}
abbrev Z2 (G:Gs) (e:Nat) (S:Int × Int->List Int->Prop):List (M1 × Int × Int)->List (M1 × Int × Int)->Prop:=F2 λq g=>q.2.1=g.2.1/\Is G e g.2.2 (S q.2)
theorem Z2.ext (h:Z2 G e S qs gs)(x:Ext G G'):Z2 G' e S qs gs:=h.imp λ_ _ r=>⟨r.1,r.2.ext x⟩
theorem Z2.PY (h:Z2 G e S qs gs)(t:List Int):Ah G e (gs.map (·.2)) t↔∃q∈qs.map (·.2),∃r,t=q.1::r/\S q r:=by
 constructor
 ·rintro⟨f,r,p,l,u,d⟩;obtain⟨⟨z,y,x⟩,i,v⟩:=xL.mp u;cases v;obtain⟨q,j,m,n⟩:=h.right i;exact⟨q.2,xL.mpr ⟨q,j,rfl⟩,r,by rw[l,m],(n.2 r).mp d⟩
 ·rintro⟨_,s,r,l,d⟩;obtain⟨q,j,rfl⟩:=xL.mp s;obtain⟨g,i,m,n⟩:=h.left j;exact⟨g.2.1,r,g.2.2,by rw[l,m],xL.mpr ⟨g,i,rfl⟩,(n.2 r).mpr d⟩
theorem Z2.u6 (h:Z2 G e S qs gs)(d:(qs.map (·.2)).Pairwise λp q=>p.1 < q.1)(f:∀q∈qs.map (·.2),(-1:Int)<=q.1/\q.1 < (G.m:Int)):m5 G e (gs.map (·.2)):=by
 have n:qs.map (·.2.1)=gs.map (·.2.1):=h.map λ_ _ r=>r.1;have l:(gs.map (·.2.1)).Pairwise (· < ·):=by rw[<-n];have u:=zAh.mp d;exact zAh.mpr u
 refine⟨zAh.mpr (zAh.mp l),λp i=>?_,λp i=>?_⟩ <;> obtain⟨g,s,rfl⟩:=xL.mp i <;> obtain⟨q,j,m,t⟩:=h.right s;·rw[<-m]; exact f q.2 (xL.mpr ⟨q,j,rfl⟩)
 ·exact t.1
theorem g5:aG K (upd H p (.tup [.int f,.int r])) p [.int f,.int r]:=aG.of aq
theorem FJ {U:List (Option Nat)}{t2:TE}{σ:L2.St}{Q:M1->Hp->Prop}{t A:Nat}(hz:qs.length<=1000)(B:aG K H a (qs.map q1))(hp:kQ K H qs)(W:Wd K P w M G L H)(hv:∀x y:V,(((dS U σ).set t (some x)).set A (some y))[t]?=some (some x))(hs:∀i q G' H' (R:VK),qs[i]?=some q->Go K P w M G H (L+i * c) G' H'->(∀r G2 H2,Go K P w M G' H' (L+i * c+c) G2 H2->Is G2 e r (S q.2)->R (.int r) H2)->t2 (((dS U σ).set t (some (.int q.2.1))).set A (some (.int q.2.2))) H' R)(hd:∀Z gs G' H',H Z=none->Go K P w M G H (L+qs.length * c) G' H'->H' Z=some (.lst (gs.map q1))->kQ K H' gs->Z2 G' e S qs gs->Q Z H') : cL (zA K a) U (rB K 2 (gJ (cz t) (gJ (cz A) t_))) ly (vF (cA (cF t) (cA t2 dR))) σ H Q:=by
 refine wj (xs:=qs.map q1) (by rw[yB,u4]; lia) (λZ i u H'=>i<=qs.length/\∃G' gs,Go K P w M G H (L+i * c) G' H'/\u=gs.map q1/\kQ K H' gs/\Z2 G' e S (qs.take i) gs) (λZ i u H' h=>?_) (λZ n=>⟨zAb _,G,[],W.go (ah.new n _) (by simp),rfl,(λq B=>absurd B (by simp)),.nil⟩) (λZ i u H' x R R0 n E m hx k1 k2=>?_) λZ u H' n E m=>?_
 ·obtain⟨hi,G',gs,j,rfl,_,z⟩:=h;have:=z.len;rw[zBv] at this;exact⟨j.kw.tk.tup B,by ext⟩
 ·obtain⟨hi,G',gs,j,rfl,J,z⟩:=E;rw[v3] at hx;obtain⟨q,f,rfl⟩:=wT.mp hx;have N:i < qs.length:=(q0.mp f).1;refine⟨q.1,_,rfl,j.kw.tk.tup (hp q (j1 f)),rfl,.int q.2.1,_,rfl,.int q.2.2,_,rfl,rfl,?_⟩;dsimp only [ly];rw[v6 rfl];refine tR (aa (hv _ _)) λH2 v=>hs i q G' H2 _ f (j.st v) λr G3 F d C=>⟨(by show 2<=PK; decide),λI T=>?_⟩;have Y:M Z=none:=W.off n;have l:ah F (upd F I (.tup [.int q.2.1,.int r])):=ah.new T _;have s:=l _ _ (d.kw.keep _ _ (v _ _ m) Y);have O:=((j.st v).trans d).st l;have X:eX (upd F I (.tup [.int q.2.1,.int r]) Z):=by rw[s]; exact True.intro
  refine k1 _ _ s ⟨N,G3,gs++[(I,q.2.1,r)],?_,by simp,λg D=>(Tk.put X).tup ?_,?_⟩;·rw[zBc,<-add_assoc]; exact O.own n Y X
  ·rcases w8.mp D with h | h;·exact ((Tk.same v).trans (d.kw.tk.trans (.same l))).tup (J g h)
   ·rw[wP.mp h]; exact g5
  ·rw[zAm,f];exact (z.ext d.ex).snoc ⟨rfl,C⟩
 ·obtain⟨_,G',gs,j,rfl,J,z⟩:=E;rw[yB] at j z;rw[zAd] at z;exact hd Z gs G' H' n j m J z
theorem L1 {U:List (Option Nat)}{t2:TE}{σ:L2.St}{Q:M1->Hp->Prop}{t A:Nat}(hz:qs.length<=1000)(B:FL H a (qs.map q1))(hp:kQ K H qs)(W:Wd K P w M G L H)(hv:∀x y:V,(((dS U σ).set t (some x)).set A (some y))[t]?=some (some x))(hs:∀i q G' H' (R:VK),qs[i]?=some q->Go K P w M G H (L+i * c) G' H'->(∀r G2 H2,Go K P w M G' H' (L+i * c+c) G2 H2->Is G2 e r (S q.2)->R (.int r) H2)->t2 (((dS U σ).set t (some (.int q.2.1))).set A (some (.int q.2.2))) H' R)(hd:∀Z gs G' H',H Z=none->Go K P w M G H (L+qs.length * c) G' H'->H' Z=some (.lst (gs.map q1))->kQ K H' gs->Z2 G' e S qs gs->Q Z H') : cL (mW K a) U (rB K 2 (gJ (cz t) (gJ (cz A) t_))) ly (vF (cA (cF t) (cA t2 dR))) σ H Q:=by
 refine o8 (xs:=qs.map q1) (by rw[yB,u4]; lia) (λZ i u H'=>i<=qs.length/\∃G' gs,Go K P w M G H (L+i * c) G' H'/\u=gs.map q1/\kQ K H' gs/\Z2 G' e S (qs.take i) gs) (λZ i u H' h=>?_) (λZ n=>⟨zAb _,G,[],W.go (ah.new n _) (by lia),rfl,(λq B=>absurd B (by simp)),.nil⟩) (λZ i u H' x R R0 n E m hx k1 k2=>?_) λZ u H' n E m=>?_
 ·obtain⟨hi,G',gs,j,rfl,_,z⟩:=h;have:=z.len;rw[zBv] at this;exact⟨(j.kw.tk.fl B).sq,by rw[yB]; ext⟩
 ·obtain⟨hi,G',gs,j,rfl,J,z⟩:=E;rw[v3] at hx;obtain⟨q,f,rfl⟩:=wT.mp hx;have N:i < qs.length:=(q0.mp f).1;refine⟨q.1,_,rfl,j.kw.tk.tup (hp q (j1 f)),rfl,.int q.2.1,_,rfl,.int q.2.2,_,rfl,rfl,?_⟩;dsimp only [ly];rw[v6 rfl];refine tR (aa (hv _ _)) λH2 v=>hs i q G' H2 _ f (j.st v) λr G3 F d C=>⟨(by show 2<=PK; decide),λI T=>?_⟩;have Y:M Z=none:=W.off n;have l:ah F (upd F I (.tup [.int q.2.1,.int r])):=ah.new T _;have s:=l _ _ (d.kw.keep _ _ (v _ _ m) Y);have O:=((j.st v).trans d).st l;have X:eX (upd F I (.tup [.int q.2.1,.int r]) Z):=by rw[s]; exact True.intro
  refine k1 _ _ s ⟨N,G3,gs++[(I,q.2.1,r)],?_,by simp,λg D=>(Tk.put X).tup ?_,?_⟩;·rw[zBc,<-add_assoc]; exact O.own n Y X
  ·rcases w8.mp D with h | h;·exact ((Tk.same v).trans (d.kw.tk.trans (.same l))).tup (J g h)
   ·rw[wP.mp h]; exact g5
  ·rw[zAm,f];exact (z.ext d.ex).snoc ⟨rfl,C⟩
 ·obtain⟨_,G',gs,j,rfl,J,z⟩:=E;rw[yB] at j z;rw[zAd] at z;exact hd Z gs G' H' n j m J z
end
structure FA where
 b:M1
 k:M1
 e:M1
 o:M1
 f:M1
noncomputable def Xz (A:FA):List (Str × V):=[("branches",.ref A.b),("known",.ref A.k),("either_known",.ref A.e),("both_known",.ref A.o),("first_known",.ref A.f)]
noncomputable def qY (p:Int × Int):Dt:=.tup [.int p.1,.int p.2]
noncomputable def wk (d:Nat)(ps:fM):Dt:=.tup [.int (d:Int),.tup (ps.map qY)]
noncomputable def dN (a b:Int):Dt:=.tup [.int a,.int b]
noncomputable def L3:Sm:=λG _ d v=>∀e a,d=wk e a->∃i:Nat,v=.int (i:Int)/\1<=i/\G.B[i]?=some a/\G.D[i]?=some e
noncomputable def wm (S:Gs->Int->Int->Int->Prop):Sm:=λG _ d v=>∀a b,d=dN a b->0<=a/\a.toNat < G.B.length/\∃r:Int,v=.int r/\S G a b r
theorem y_:y9 L3:=λG j H k d v h x _ e c z=>by obtain⟨i,f,a,b,g⟩:=h e c z;exact⟨i,f,a,x.b _ _ b,x.d _ _ g⟩
theorem za (f:∀G c a b r,Ext G c->a.toNat < G.B.length->S G a b r->S c a b r):y9 (wm S):=λG c H k d v h x _ a b z=>by obtain⟨i,e,r,j,g⟩:=h a b z;exact⟨i,wS e x.len,r,j,f _ _ _ _ _ x e g⟩
theorem uG (h:dN a b=dN c d):c=a/\d=b:=by unfold dN at h;ext
theorem FN {S:Gs->Int->Int->Int->Prop}{G:Gs}{H:Hp}{a b r:Int}(h:0<=a/\a.toNat < G.B.length/\S G a b r):wm S G H (dN a b) (.int r):=λc d z=>by obtain⟨rfl,rfl⟩:=uG z;ext
structure Fo (K:zzA)(C:M1)(M:Mp)(H:Hp)(s:M1)(A:FA):Prop where
 ob:∃dx,H s=some (.ins C dx (Xz A))
 ms:M s=none
 mb:M A.b=some .br
 mn:M A.k=some (.mm L3)
 me:M A.e=some (.mm (wm Ai))
 mo:M A.o=some (.mm (wm Aj))
 mf:M A.f=some (.mm (wm Cv))
 cl:gK K C
 nb:aV K C "branches"
 nk:aV K C "known"
 ne:aV K C "either_known"
 no:aV K C "both_known"
 nf:aV K C "first_known"
section
variable {P:zAA}{w:zAE}{K:zzA}{H H':Hp}{M M':Mp}{G G':Gs}{L L' d:Nat}{s C:M1}{A:FA}{n:Int}{σ:L2.St}{ta tb:TE}
theorem Fo.kw (F:Fo K C M H s A)(k:Kw M H H'):Fo K C M H' s A:={ F with ob:=F.ob.imp λa e=>k.keep _ _ e F.ms }
theorem Fo.same (F:Fo K C M H s A)(k:ah H H'):Fo K C M H' s A:=F.kw (.same k)
theorem Fo.kx (F:Fo K C M H s A)(k:Kx p H H')(n:s≠p):Fo K C M H' s A:={ F with ob:=F.ob.imp λa e=>k.keep _ _ e n }
theorem Fo.ex (F:Fo K C M H s A)(x:Ex M M' H):Fo K C M' H s A:={ F with
 ms:=x.new s (by obtain⟨a,e⟩:=F.ob; ext) F.ms
 mb:=x.old _ _ F.mb
 mn:=x.old _ _ F.mn
 me:=x.old _ _ F.me
 mo:=x.old _ _ F.mo
 mf:=x.old _ _ F.mf }
theorem Fo.gb (F:Fo K C M H s A)(h:Gv ta σ H (.ref s)):Gv (kh K ta "branches") σ H (.ref A.b):=by obtain⟨a,e⟩:=F.ob;exact d_ h e F.cl F.nb rfl
theorem Fo.at (F:Fo K C M H s A)(W:Wd K P w M G L H)(h:Num G (d+1) n) : ∃b a,(∀{ta tb:TE} {σ:L2.St},Gv ta σ H (.ref s)->(∀H',ah H H'->Gv tb σ H' (.int n))->Gv (cT (oq K) (kh K ta "branches") tb) σ H (.ref b))/\a.map (·.2)=aZ G n/\aG K H b (a.map q1)/\(aZ G n≠[]->FT H b (a.map q1))/\kQ K H a:=by
 obtain⟨c,o,r,q⟩:=W.kd _ _ F.mb;have p:=(W.wf.aZ h).2.2.2;obtain⟨i,rfl⟩:=zBd h.nonneg;rw[zA3] at p;have e:aZ G i=G.B[i]:=by unfold aZ; ext
 obtain⟨a,f,l,k,m⟩:=q i c[i] G.B[i] (by simp) (by simp);rw[e];exact⟨c[i],a,λg j=>f_ (F.gb g) j (ay.of o) (bL (by simp)),f,l,k,m⟩
theorem pG (h:aG K H nm [.int a,.int b]):NK K H (dN a b) nm:=by refine NK.of h ?_ rfl (by show max 0 (max 0 0)<=7; decide);refine⟨_,_,rfl,by rfl,?_⟩;exact⟨_,_,rfl,by rfl,by rfl⟩
theorem Bw:∀a:List (M1 × Int × Int),kQ K H a->aJ K H ((a.map (·.2)).map qY) (a.map q1)| [],_=>by rfl| q::a,h=>by exact⟨_,_,rfl,(pG (h q zAc)).2.2.2,Bw a λp b=>h p (by ext)⟩
theorem uH:∀ps:fM,gf (ps.map qY)=true| []=>rfl| p::ps=>by show (jf _&&gf _)=true; rw[uH ps]; rfl
theorem Am:∀ps:fM,gu (ps.map qY)<=1| []=>zAb _| p::ps=>by show max _ _<=1;have:=Am ps;have e:pR (qY p)=1:=rfl;ext
theorem RP (h:aG K H nm [.int (d:Int),.ref l])(b:aG K H l (a.map q1))(c:kQ K H a):NK K H (wk d (a.map (·.2))) nm:=by
 refine NK.of h ?_ ?_ ?_
 ·refine⟨_,_,rfl,by rfl,?_⟩;refine⟨_,_,rfl,?_,by rfl⟩;exact⟨l,_,rfl,b,Bw a c⟩
 ·show (true&&(gf _&&true))=true;rw[uH];rfl
 ·have:=Am (a.map (·.2));show max 0 (max (gu _+1) 0)<=7;lia
theorem L5 (ps:fM):JS (.tup (ps.map qY)) (.tup []):=⟨Du _ (uH ps),rfl,by have:(Dt.tup []).py.depth=1:=rfl;rw[this];exact zAv (Nat.min_le_right _ _) (by decide)⟩
theorem Ol (ps:fM):eqv (Dt.tup (ps.map qY)).py (Dt.tup []).py=decide (ps=[]):=by cases ps <;> rfl
theorem Om (h:wk d ps=wk e g):e=d/\g=ps:=by injection h with h;injection h with f c;injection f with f;injection c with c;injection c with c;refine⟨by lia,((List.map_inj_right λa b h=>?_).mp c).symm⟩;obtain⟨i,f⟩:=uG h;grind
end
inductive wu (K:zzA)(P:zAA)(w:zAE)(C:M1)(vs:List V)(H:Hp)(Q:VK)(E_:XK):Prop| mk (s l:M1) (d:Nat) (A:FA) (M:Mp) (G:Gs) (L:Nat) (qs:List (M1 × Int × Int)):vs=[.ref s,.int ((d+1:Nat):Int),.ref l]->Fo K C M H s A->Wd K P w M G L H->ay K H l (qs.map q1)->kQ K H qs->m5 G d (qs.map (·.2))->L<=16000000->(∀r G' H',Go K P w M G H (L+1) G' H'->Is G' (d+1) r (Ah G d (qs.map (·.2)))->Q (.int r) H')->wu K P w C vs H Q E_
inductive zb (vs:List V)(H:Hp)(Q:VK)(E_:XK):Prop| mk (f:Int):vs=[.int f]->-1<=f->f<=1000->(∀H',ah H H'->Q (.int (dJ f)) H')->zb vs H Q E_
inductive wz (K:zzA)(P:zAA)(w:zAE)(C:M1)(vs:List V)(H:Hp)(Q:VK)(E_:XK):Prop| mk (s:M1) (d:Nat) (n b:Int) (A:FA) (M:Mp) (G:Gs) (L:Nat):vs=[.ref s,.int (d:Int),.int n,.int b]->Fo K C M H s A->Wd K P w M G L H->Num G d n->0<=b->L<=15900000->(∀r G' H',Go K P w M G H (L+2) G' H'->Is G' d r (kP G d n b)->Q (.int r) H')->wz K P w C vs H Q E_
inductive FO (K:zzA)(P:zAA)(w:zAE)(C:M1)(S:Gs->Nat->Int->Int->List Int->Prop)(N:Nat)(vs:List V)(H:Hp)(Q:VK)(E_:XK):Prop| mk (s:M1) (d:Nat) (a b:Int) (A:FA) (M:Mp) (G:Gs) (L:Nat):vs=[.ref s,.int (d:Int),.int a,.int b]->d < N->Fo K C M H s A->Wd K P w M G L H->Num G d a->Num G d b->L+cB G.m d<=15000000->(∀r G' H',Go K P w M G H (L+cB G.m d) G' H'->Is G' d r (S G d a b)->Q (.int r) H')->FO K P w C S N vs H Q E_
theorem qv (h:Ga a σ H [.int f])(b:-1<=f)(c:f<=1000):Gv (oW zb [] E a) σ H (.int (dJ f)):=eB h λd R s k=>⟨f,rfl,b,c,k⟩
end WD
namespace fX
open PySem PySem.Spec PyProof.Rows L2 kg TB WD
section
variable {P:zAA}{w:zAE}{K:zzA}{mg:Str->Option Value}{base:Heap}{t:Ad}
theorem L_:aN ["field"] ["field"] (aE pU):=cI
theorem qZ (T:Txt K mg t):aL P w K mg base bg 1 t.E3 t.uA ["field"] zb:=by
 refine T.tG.fn.ok L_ (λb H Q E h=>?_) (λc A a s H b Q E g h=>?_)
 ·obtain⟨f,rfl,_⟩:=h;rfl
 obtain⟨f,rfl,d,e,k⟩:=h;refine⟨_,(av (aK (aC S_ ao (aC aU (pv 0) ao)))),?_⟩;refine bU (v:=.int (dJ f)) (aR (bA az (λ_ _=>aO aa λ_ _=>az) ⟨by lia,by lia,by decide⟩) ?_) ‹_›;unfold dJ;simp
theorem fsT (T:Txt K mg t){M:Mp}{H:Hp}{s:M1}{A:FA}(a:∃c,H s=some (.ins t.aF c (Xz A)))(ms:M s=none)(d:M A.b=some .br)(f:M A.k=some (.mm L3))(g:M A.e=some (.mm (wm Ai)))(b:M A.o=some (.mm (wm Aj)))(e:M A.f=some (.mm (wm Cv))):Fo K t.aF M H s A:=⟨a,ms,d,f,g,b,e,T.aX,T.fy,T.gU,T.ji,T.j_,T.jK⟩
inductive Cz (K:zzA)(P:zAA)(w:zAE)(C:M1)(m:Nat)(vs:List V)(H:Hp)(Q:VK)(E_:XK):Prop| mk (p dx:M1):vs=[.ref p]->H p=some (.ins C dx [])->m<=16->(∀A M H',Fo K C M H' p A->Wd K P w M ⟨m,[[]],[0]⟩ 0 H'->Kx p H H'->(∀a,H a≠none->M a=none)->Q .bq H')->Cz K P w C m vs H Q E_
theorem Oo (h:m<=16):WF ⟨m,[[]],[0]⟩:=⟨rfl,rfl,rfl,λi b a h=>by grind,h⟩
theorem rX:aN ["self"] ["self"] (aE dO):=cI
theorem rY (T:Txt K mg t)(m:Nat):aL P w K mg base bg 1 t.ir t.fu ["self"] (Cz K P w t.aF m):=by
 refine T.mZ.fn.ok rX (λvs H Q E h=>?_) (λcdv Ar J sh H vs Q E hr h=>?_)
 ·obtain⟨p,d,rfl,_⟩:=h;rfl
 obtain⟨p,d,rfl,hp,hm,kk⟩:=h;refine⟨_,(aj (jT K (pv 0) (bH (af (bw ai) ai))) (aj (jT K (pv 0) (qO K P w)) (aj (jT K (pv 0) (qO K P w)) (aj (jT K (pv 0) (qO K P w)) (av (jT K (pv 0) (qO K P w))))))),?_⟩;refine zU (Ak ⟨(by simp),λy j=>⟨(by decide),λb B=>(aa (by rfl)) _ λg A=>?_⟩⟩);have l:=((ah.new j (.tup [])).trans (ah.new B (.lst [.ref y]))).trans A;have s:=l _ _ hp;have W:=A _ _ aq;have hbH:=(ah.new j (.tup [])).free B;have Z:p≠b:=λz=>by ext
 have G:aG K g y []:=(A.tup ((ah.new B (.lst [.ref y])).tup (aG.of aq)));have br:∀a,iL (λ_=>none) b .br a=some .br->a=b:=λa e=>by
  by_cases c:a=b;·symm
  ·rw[jb c] at e; ext
 have W1:Wd K P w (iL (λ_=>none) b .br) ⟨m,[[]],[0]⟩ 0 g:=by
  refine⟨λa k e=>?_,Oo hm,y6 _,(by grind)⟩;by_cases c:a=b
  ·subst c;rw[lO] at e;cases e;refine⟨[y],W,rfl,λi tt ps S v=>?_⟩;cases i with| zero=> simp at S v;subst S; subst v;exact⟨[],rfl,G,λz=>absurd rfl z,λq hq=>absurd hq (by simp)⟩| succ i=>simp at S
  ·rw[jb c] at e; cases e
 have r:iL (λ_=>none) b .br p=none:=jb Z;have u:eX (g p):=by rw[s]; exact True.intro
 refine⟨p,_,d,[],rfl,s,T.aX,T.fy,by decide,?_⟩;have x2:Kx p H (upd g p (.ins t.aF d (eZ "branches" (.ref b) []))):=(Kx.same l).trans (.put u);have I:(upd g p (.ins t.aF d (eZ "branches" (.ref b) []))) p=some (.ins t.aF d (eZ "branches" (.ref b) [])):=aq;have W2:Wd K P w (iL (λ_=>none) b .br) ⟨m,[[]],[0]⟩ 0 (upd g p (.ins t.aF d (eZ "branches" (.ref b) []))):=W1.aside r u;have L:∀a,H a≠none->iL (λ_=>none) b .br a=none:=λa h=>jb λz=>h (by ext);have mb2:iL (λ_=>none) b .br b=some .br:=lO;generalize upd g p (.ins t.aF d (eZ "branches" (.ref b) []))=H2 at *;generalize iL (λ_=>none) b .br=M2 at *;have c:=T.aX;refine tQ (K:=K) (P:=P) (w:=w) L3 y_ (λR=>aa) I W2 r c T.gU (by show 1 < 1000; decide) λk M3 H3 N e3 M W3 x3 n3 V=>?_;refine tQ (wm Ai) (za λ_ _ _ _ _=>Ai.ext) (λR=>aa) V W3 M c T.ji (by show 2 < 1000; decide) λe M4 H4 C e4 mp4 W4 x4 n4 U0=>?_;refine tQ (wm Aj) (za λ_ _ _ _ _=>Aj.ext) (λR=>aa) U0 W4 mp4 c T.j_ (by show 3 < 1000; decide) λo M5 H5 U O D W5 x5 n5 hp5=>?_;refine IB (wm Cv) (za λ_ _ _ _ _=>Cv.ext) (λR=>aa) hp5 W5 D c T.jK (by show 4 < 1000; decide) λf M6 H6 F x X W6 x6 n6 Y=>?_;have n:=(e3.trans (e4.trans (O.trans x x5.live) x4.live) x3.live);refine kk ⟨b,k,e,o,f⟩ M6 H6 (fsT T ⟨d,Y⟩ X (n.old _ _ mb2) (x.old _ _ (O.old _ _ (e4.old _ _ N))) (x.old _ _ (O.old _ _ C)) (x.old _ _ U) F) W6 (x2.trans (x3.trans (x4.trans (x5.trans x6)))) λa h=>n.new a (x2.live a h) (L a h)
theorem gq:aN ["self","depth","branches","found","name"] ["self","depth","branches"] (aE c_):=cI
theorem bx (T:Txt K mg t):aL P w K mg base bg 1 t.j6 t.j7 ["self","depth","branches"] (wu K P w t.aF):=by
 refine T.bC.fn.ok gq (λvs H Q E h=>?_) (λcdv Ar outer sh H vs Q E hr h=>?_)
 ·obtain⟨s,l,d,A,M,G,L,Y,rfl,_⟩:=h;rfl
 obtain⟨s,l,d,A,M,G,L,Y,rfl,F,W,hl,hqs,hb,hL,kk⟩:=h;refine⟨_,(aj (bh 3 gq.nd (gM (Ru K) (by rfl) T.Bk boot_tuple (af (gg ["branch"] [none] (dD K (pv 2)) (λ_ _ _ _ nd=>⟨(bu 0 nd),(sR (a_ zC (aI (cQ K) (pv 0) ao (λ_ _=>rfl)) ao rfl)),(pv 0)⟩)) ai))) (aj (bG (a_ (YX K hr.units) (pv 3) (bw ai) rfl) (av (aK ao)) aW) (aj (bh 4 gq.nd (bw (af (pv 1) (af (pv 3) ai)))) (aj (bG (iU (pC K P w hr.j5 (pv 4) (bf K (pv 0)))) (aj (ur K P w hr.j5 (bf K (pv 0)) (pv 4) (aH (dB K) (by rfl) T.cg zA1 (af (bf K (pv 0)) ai)) rfl) (av (cU (mX K zAo zAq zAr dh (bf K (pv 0)) (af (pv 3) ai))))) aW) (av (aK (xG K P w hr.j5 (bf K (pv 0)) (pv 4) (λ_ _=>rfl)))))))),?_⟩;have hz:Y.length<=17:=by have:=hb.len; have:=W.wf.few; grind
 refine aP (nj (lW (K:=K) aa hl λH1 s1 hl1=>?_));refine o8 (xs:=Y.map q1) (by rw[yB,u4]; lia) (λD i ys H'=>ah H1 H'/\ys=((Y.take i).filter λq=>decide (q.2.2≠0)).map q1) (λD i ys H' h=>⟨h.1.seq hl1,?_⟩) (λD hD=>⟨ah.new hD _,by rfl⟩) (λD i ys H' x R R0 hD ⟨sm,ey⟩ I hx k1 k2=>?_) λZ ys H2 hD ⟨sm,ey⟩ I=>?_;·grind
 ·rw[v3] at hx;obtain⟨q,hq,rfl⟩:=wT.mp hx;have htk:Y.take (i+1)=Y.take i++[q]:=by rw[zAm,hq]; rfl
  show qG (cT Tc (cT (yI K) (cF 0) (tC (V.int 1))) (tC (V.int 0))) _ H' _;refine (bF (vM (cG (K:=K) aa (λ_ _=>az) ((s1.trans sm).tup (hqs q (j1 hq))) rfl) (λ_ _=>az) (by rfl))) _ λH5 S=>?_;by_cases hz0:q.2.2=0
  ·rw[xI (by ext)];exact k2 H5 (S _ _ I) ⟨sm.trans S,by ext⟩
  ·rw[v6 (by ext)];exact (aa (by rfl)) _ λH6 s6=>k1 _ H6 ((S.trans s6) _ _ I) ⟨(sm.trans (S.trans s6)).put hD _,by ext⟩
 rw[yB,zAd] at ey;generalize hfs:(Y.filter λq=>decide (q.2.2≠0))=c at ey;subst ey;have f:c.map (·.2)=live (Y.map (·.2)):=by rw[<-hfs];unfold live;rw[List.filter_map];rfl
 have XA:kQ K H2 c:=λq hq=>by rw[<-hfs] at hq;exact (s1.trans sm).tup (hqs q (by grind))
 refine⟨Z,_,rfl,ay.of I,λj o3 hl3 X=>?_⟩;have s03:ah H (upd H2 j o3):=(s1.trans sm).trans (ah.new hl3 _);have N:kQ K (upd H2 j o3) c:=XA.tk (.same (ah.new hl3 _));generalize upd H2 j o3=H3 at *;clear I hD sm s1 hl1 XA;refine eG (b:=decide (c=[])) (di (bF (b:=false ^^ eqv (Dt.tup ((c.map (·.2)).map qY)).py (Dt.tup []).py) λR r=>(aa (by rfl)) _ λHN sN=>⟨(by simp),λq hq=>⟨_,_,L5 (c.map (·.2)),?_,?_,r _ (sN.trans (ah.new hq _))⟩⟩) (by rw[Ol,false_xor]; simp)) (λe H4 s4=>?_) λe H4 s4=>?_
 ·have sq:=sN.trans (ah.new hq (.tup []));unfold Rep;exact⟨j,_,rfl,sq.tup X.sq,Bw c (N.tk (.same sq))⟩
 ·unfold Rep;exact⟨q,[],rfl,aG.of aq,by rfl⟩
 ·have e':c=[]:=zAi e;exact bU az λH5 S=>kk 0 G H5 (W.go (s03.trans (s4.trans S)) (zCg _)) (RK W.wf (by ext))
 have hne:c≠[]:=of_decide_eq_false e;refine aP ((au aa λ_ _=>aA aa) _ λH5 S=>⟨(by show 2<=PK; decide),λnm hnm=>?_⟩);have y:ah H3 (upd H5 nm (.tup [.int ((d+1:Nat):Int),.ref j])):=(s4.trans S).trans (ah.new hnm _);have hnk:NK K (upd H5 nm (.tup [.int ((d+1:Nat):Int),.ref j])) (wk (d+1) (c.map (·.2))) nm:=RP (aG.of aq) (y.tup X.sq) (N.tk (.same y));generalize upd H5 nm (.tup [.int ((d+1:Nat):Int),.ref j])=H6 at *;clear hnm S s4 H5 H4 e;have O:=s03.trans y;have W6:=W.same O;obtain⟨dx,ob⟩:=(F.same O).ob;have hbl:m5 G d (c.map (·.2)):=by rw[f]; exact hb.live
 refine pF F.cl F.nk rfl ob rfl rfl hnk W6 F.mn F.ms (λv H7 s7 hS=>?_) λH7 nx s7 m6=>?_
 ·obtain⟨i,rfl,h1,h2,h3⟩:=hS _ _ rfl;rw[f] at h2;exact kk _ G H7 (W.go (O.trans s7) (zCg _)) (IA W.wf h1 h2 h3)
 obtain⟨U,h1,h2,h3⟩:=W6.kd _ _ F.mb;obtain⟨_,mk,k1,k2⟩:=W6.kd _ _ F.mn;have XC:A.b≠A.k:=λz=>by have:=F.mb; rw[z,F.mn] at this; ext
 have nsk:s≠A.k:=λz=>by have:=F.mn; rw[<-z,F.ms] at this; ext
 refine RO (K:=K) (P:=P) (w:=w) (n:=L) (f6 (K:=K) (aA (d_ aa (s7 _ _ ob) F.cl F.nb rfl)) (ay.of (s7 _ _ h1))) (λH8 s8=>d_ aa ((s7.trans s8) _ _ ob) F.cl F.nk rfl) (λ_ _=>aa) (k1.same s7) (by rw[u4]; lia) (NK.same hnk (.same s7)) λHa o sa hN=>?_;have J:=s7.trans sa;have XD:=k1.same J;rw[yB,h2] at hN;have tkk:Tk H6 (upd Ha A.k o):=(Tk.same J).trans (.put XD.mut);have kw9:Kw M H6 (upd Ha A.k o):=(Kw.same J).trans (.put F.mn XD.mut);have XE:upd Ha A.k o A.b=some (.lst (U.map V.ref)):=by rw[aD XC]; exact J _ _ h1
 have e9:∀a k,M a=some k->a≠A.k->upd Ha A.k o a=H6 a:=λa k m n=>by obtain⟨u,e⟩:=(W6.kd a k m).some;rw[aD n,e]; exact J _ _ e
 generalize upd Ha A.k o=Hb at *;refine Cy (d_ aa (kw9.keep _ _ ob F.ms) F.cl F.nb rfl) XE (λ_ _=>aa) (by rw[yB,h2,u4]; have:=W6.few; lia) λHc sc=>?_;have Ma:eX (Hc A.b):=by rw[sc _ _ XE]; exact True.intro
 have C:Tk H6 (upd Hc A.b (.lst (U.map V.ref++[.ref j]))):=tkk.trans ((Tk.same sc).trans (.put Ma));have x:Ext G (G.new (d+1) (c.map (·.2))):=Iz W.wf;have hps:∀p∈c.map (·.2),p.2≠0:=λp hp=>by grind
 have hne':c.map (·.2)≠[]:=λz=>hne (by ext);have W':=W.wf.new hbl hps hne';have hNc:bE K P w (upd Hc A.b (.lst (U.map V.ref++[.ref j]))) A.k (λk=>if k=wk (d+1) (c.map (·.2)) then some (.int (G.B.length:Int)) else mk k) (L+1):=(hN.same sc).keep (aD (Ne.symm XC)) λq xs h=>(Tk.put Ma).tup h;have b0:1<=G.B.length:=(q0.mp W.wf.zero).1;have acT:L3 (G.new (d+1) (c.map (·.2))) (upd Hc A.b (.lst (U.map V.ref++[.ref j]))) (wk (d+1) (c.map (·.2))) (.int (G.B.length:Int)):=λe ps z=>by obtain⟨rfl,rfl⟩:=Om z;exact⟨_,rfl,b0,Kc,PX W.wf⟩
 have Wc:Wd K P w M (G.new (d+1) (c.map (·.2))) (L+1) (upd Hc A.b (.lst (U.map V.ref++[.ref j]))):=by
  refine⟨λa k m=>?_,W',by have:=W.few; simp [Gs.new]; symm,W.ub⟩;by_cases ab:a=A.b
  ·subst ab;rw[F.mb] at m;cases m;refine⟨U++[j],by rw[aq]; simp,by simp [Gs.new,h2],λi tt ps hi g=>?_⟩;by_cases hi':i < U.length
   ·rw[zAg hi'] at hi;rw[show (G.new (d+1) (c.map (·.2))).B=G.B++[c.map (·.2)] from rfl,zAg (by ext)] at g;exact (h3 i tt ps hi g).tk C
   ·obtain rfl:i=U.length:=by grind
    rw[zAs (y6 _)] at hi;rw[h2,Kc] at g;simp at hi;cases g;subst hi;exact⟨c,rfl,C.tup ((X.same y).sq),λ_=>C.ft (X.same y),N.tk ((Tk.same y).trans C)⟩
  ·by_cases ak:a=A.k
   ·subst ak;rw[F.mn] at m;cases m;refine⟨y_,_,hNc,λd' v z=>?_⟩;by_cases e:d'=wk (d+1) (c.map (·.2))
    ·rw[v6 e] at z;rw[e,<-zAy z]; symm
    ·rw[xI e] at z;exact y_ _ _ _ _ d' v (k2 d' v z) x C
   ·refine (W6.kd a k m).keep ?_ x (λz=>?_) C (zCg _)
    ·obtain⟨u,e⟩:=(W6.kd a k m).some;rw[aD ab,e];exact sc _ _ (by ext)
    ·rw[z] at m; exact absurd (W.ub a A.b m F.mb) ab
 have go:Go K P w M G H6 (L+1) (G.new (d+1) (c.map (·.2))) (upd Hc A.b (.lst (U.map V.ref++[.ref j]))):=⟨Wc,x,(kw9.st sc).trans (.put F.mb Ma)⟩;refine m6 _ _ ⟨_,L+1,go,rfl,rfl,(by grind),λv H2 s2 hS=>?_⟩;obtain⟨i,rfl,i1,i2,i3⟩:=hS _ _ rfl;have i2':=i2.trans (zAz some f);exact kk _ _ H2 ((go.pre O).st s2) ((IA W' i1 i2' i3).iff (Ah.ext x hb))
theorem jL:aN ["self","depth","number","bits","name"] ["self","depth","number","bits"] (aE dc):=cI
theorem jM (T:Txt K mg t):aL P w K mg base bg 2 t.j8 t.j9 ["self","depth","number","bits"] (wz K P w t.aF):=by
 have c:=qZ (P:=P) (w:=w) (base:=base) T;have a:=bx (P:=P) (w:=w) (base:=base) T;refine T.iu.fn.ok jL (λvs H Q E h=>?_) (λcdv Ar outer sh H vs Q E y h=>?_)
 ·obtain⟨s,d,n,b,A,M,G,L,rfl,_⟩:=h;rfl
 obtain⟨s,d,n,b,A,M,G,L,rfl,F,W,l,hb,hL,kk⟩:=h;refine⟨_,(aj (bG (a_ dQ (pv 1) ao rfl) (av (aK (aC vC (pv 2) (pv 3)))) aW) (aj (bh 4 jL.nd (bw (af (pv 2) (af (pv 3) ai)))) (aj (bG (iU (pC K P w y.j5 (pv 4) (bf K (pv 0)))) (av (ur K P w y.j5 (bf K (pv 0)) (pv 4) (cM T.bC T.aX a y aM (pv 0) (af (pv 1) (af (gg ["branch","bits"] [none,some 3] (qJ K (aI (cO K) (bf K (pv 0)) (pv 2) (λ_ _=>rfl))) (λ_ _ _ _ nd=>⟨(bu 0 nd),(sR (vO K (aC vC (cD T.tG c y aM (af (aI (cQ K) (pv 0) ao (λ_ _=>rfl)) ai)) (pv 1)) (λ_=>rfl))),(pv 0)⟩)) ai))) rfl)) aW) (av (aK (xG K P w y.j5 (bf K (pv 0)) (pv 4) (λ_ _=>rfl))))))),?_⟩;refine eG (b:=decide (d=0)) (di (bF (dz aa (λ_ _=>az) (by rfl))) DF) (λe H1 s1=>?_) λe H1 s1=>?_
 ·obtain rfl:d=0:=zAi e;obtain⟨b0,b1⟩:=xM l.nonneg hb;refine bU (aO aa λ_ _=>aa) λu s2=>kk _ G u (W.go (s1.trans s2) (by simp)) ⟨⟨b0,n_ b0 λf I=>wh l.2 ((b1 f).mp I).1⟩,λO=>⟨?_,?_⟩⟩
  ·rintro⟨f,rfl,I⟩;exact⟨⟨f,rfl,((b1 f).mp I).1⟩,f,[],rfl,((b1 f).mp I).2⟩
  ·rintro⟨⟨f,rfl,I⟩,f',g,e,hg⟩;cases e;exact⟨f,rfl,(b1 f).mpr ⟨I,hg⟩⟩
 obtain⟨d,rfl⟩:∃k,d=k+1:=⟨d - 1,by grind⟩;refine aP ((au aa λ_ _=>aA aa) _ λu s2=>⟨(by show 2<=PK; decide),λnm U=>?_⟩);have m:ah H (upd u nm (.tup [.int n,.int b])):=(s1.trans s2).trans (ah.new U _);have J:NK K (upd u nm (.tup [.int n,.int b])) (dN n b) nm:=pG g5;generalize upd u nm (.tup [.int n,.int b])=H3 at *;clear U s2 s1 u H1 e;have W3:=W.same m;have F3:=F.same m;obtain⟨dx,ob⟩:=F3.ob;refine pF F.cl F.nf rfl ob rfl rfl J W3 F.mf F.ms (λv H4 s4 hS=>?_) λH4 nx s4 m6=>?_
 ·obtain⟨_,_,r,rfl,y⟩:=hS _ _ rfl;exact kk r G H4 (W.go (m.trans s4) (by simp)) (y d l)
 refine tS F.cl F.nf rfl ob rfl rfl J F.mf F.ms m6 λR q=>?_;refine bQ aa (s4 _ _ ob) rfl λH5 s5=>qX aa λH6 s6=>IC ?_;have z:=s4.trans (s5.trans s6);refine hold λP_2 k_2=>?_;obtain⟨tt,D,hat,eqs,kR,_,X⟩:=(F3.same z).at (W3.same z) l;obtain⟨j,bz,_,_⟩:=W.wf.aZ l;refine k_2 ?_;have nL:D.length<=17:=by have:=j.len; have:=W.wf.few; grind
 refine vS (K:=K) (hat aa λ_ _=>aa) kR λH7 s7 hq7=>?_;refine wj (xs:=D.map q1) (by rw[yB,u4]; lia) (λZ i ys H'=>ah H7 H'/\ys=((D.take i).filter λq=>decide (bit b q.2.1)).map q1) (λZ i ys H' h=>⟨h.1.tup hq7,?_⟩) (λZ hZ=>⟨ah.new hZ _,by rfl⟩) (λZ i ys H' x R R0 hZ ⟨V,ey⟩ o hx k1 k2=>?_) λZ ys H8 hZ ⟨V,ey⟩ o=>?_;·grind
 ·rw[v3] at hx;obtain⟨q,hq,rfl⟩:=wT.mp hx;have jN:q∈D:=j1 hq;have htk:D.take (i+1)=D.take i++[q]:=by rw[zAm,hq]; rfl
  obtain⟨f1,f2⟩:=j.fld q.2 (by grind);have:=W.wf.few;refine (aO (qv (aA (cG (K:=K) aa (λ_ _=>az) ((s7.trans V).tup (X q jN)) rfl)) f1 (by lia)) λ_ _=>aa) _ λH9 s9=>⟨_,rfl,?_⟩;rw[Oh f1 hb];dsimp only;by_cases N:bit b q.2.1
  ·rw[v6 (j2 N)];exact (aa (by rfl)) _ λHa sa=>k1 _ Ha ((s9.trans sa) _ _ o) ⟨(V.trans (s9.trans sa)).put hZ _,by ext⟩
  ·rw[xI (by ext)];exact k2 H9 (s9 _ _ o) ⟨V.trans s9,by ext⟩
 rw[yB,zAd] at ey;generalize hfs:(D.filter λq=>decide (bit b q.2.1))=O at ey;subst ey;have S:O.map (·.2)=(aZ G n).filter λp=>decide (bit b p.1):=by rw[<-hfs,<-eqs,List.filter_map];rfl
 have Y:=s7.trans V;have C:=z.trans Y;refine⟨s,Z,d,A,M,G,L,O,rfl,F3.same C,W3.same C,ay.of o,λq hq=>Y.tup (X q (by grind)),?_,by lia,λr G' H9 PZ U1=>?_⟩
 ·rw[S];exact⟨j.rise.filter _,λp hp=>j.fld p (zAt.mp hp).1,λp hp=>j.num p (zAt.mp hp).1⟩
 have isF:Is G' (d+1) r (kP G (d+1) n b):=U1.iff λfs'=>by rw[S]; exact LY fs'
 have go:=PZ.pre C;refine q _ _ _ _ go (by rw[u4]; lia) (FN ⟨l.nonneg,wS (W.wf.aZ l).2.2.2 go.ex.len,UU go.ex go.wd.wf l isF⟩) λv' u B hS=>?_;obtain⟨_,_,r',rfl,hr'⟩:=hS _ _ rfl;exact kk r' G' u (B.pre m) ((hr' d (l.ext B.ex)).iff λO=>(qW B.ex l O).symm)
end
end fX
namespace WD
open PySem PySem.Spec PyProof.Rows L2 kg TB
theorem iM (ps:fM)(f:Int):(dF (bW ps) (.inl f)).getD (.int 0)=.int (cK ps f):=by unfold cK;induction ps with| nil=>rfl| cons q a b=>
  rw[zBr];by_cases e:q.1=f
  ·rw[j2 e,show dF (bW (q::a)) _=some _ from fE (by ext)];rfl
  ·rw[zAx e,show dF (bW (q::a)) _=dF _ _ from fF (by ext)];symm
theorem tT (ps:fM)(f r:Int):putK (bW ps) (.inl f) (.int r)=bW (mO ps f r):=by
 unfold putK mO bW;have e:(ps.map λa=>((Sum.inl a.1:Key),V.int a.2)).any (λa=>decide (a.1=.inl f))=ps.any λp=>decide (p.1=f):=by rw[List.any_map];congr 1;funext p;simp
 rw[e];split
 ·rw[zAa,zAa];refine List.map_congr_left λp _=>?_;by_cases h:p.1=f <;> simp [h]
 ·simp
theorem qw (ps:fM)(f r g:Int):cK (mO ps f r) g=if g=f then r else cK ps g:=by have a:=iM (mO ps f r) g;have b:=iM ps g;rw[<-tT,yN] at a;grind
structure Dn (G:Gs)(d:Nat)(ks:fM)(S:Int->List Int->Prop):Prop where
 nd:(ks.map (·.1)).Nodup
 fld:∀p∈ks,-1<=p.1/\p.1 < G.m
 is:∀g,Is G d (cK ks g) (S g)
section
variable {P:zAA}{w:zAE}{K:zzA}{H:Hp}{M:Mp}{G G':Gs}{L d:Nat}{s C:M1}{A:FA}{σ:L2.St}{ks:fM}{S S':Int->List Int->Prop}
theorem Dn.put {f r:Int}(h:Dn G d ks S)(x:Ext G G')(i:Is G' d r (S' f))(j:-1<=f/\f < G.m)(e:∀g a,g≠f->(S g a↔S' g a)):Dn G' d (mO ks f r) S':=by
 obtain⟨l,c⟩:=wg f r h.nd;refine⟨l,λp n=>?_,λg=>?_⟩
 ·rw[x.m];rcases (c p.1).mp (xL.mpr ⟨p,n,rfl⟩) with e | e;·rw[e]; exact j
  ·obtain⟨k,b,m⟩:=xL.mp e;rw[<-m]; exact h.fld k b
 ·rw[qw];split;·rename_i z; rw[z]; exact i
  ·rename_i z; exact ((h.is g).ext x).iff λa=>e g a z
theorem Dn.iff (h:Dn G d ks S)(e:∀g a,S g a↔S' g a):Dn G d ks S':=⟨h.nd,h.fld,λg=>(h.is g).iff (e g)⟩
theorem RQ {I:TE}{R:VK}{j:M1}(U:Gv I σ H (.ref j))(e:H j=some (.dK (bW ks)))(u:ks.length < 64)(k:∀l n H',H l=none->ah H H'->H' l=some (.lst (n.map q1))->kQ K H' n->(n.map (·.2)).Perm ks->(n.map (·.2)).Pairwise (λp q=>HT.lexLt [p.1,p.2] [q.1,q.2]=true)->R (.ref l) H') : oN uv (cA (Ic K "dict" ES I dR) dR) σ H R:=by
 refine nj (U _ λJ B=>?_);have a:=B _ _ e;refine⟨.inr (.inr (.inl ⟨rfl,.inl ⟨_,a⟩⟩)),j,bW ks,rfl,rfl,a,λz v=>?_⟩;have c:ah J (upd J z (zZ z j)):=ah.new v _;refine⟨z,j,ks,rfl,aq,c _ _ a,u,λl m X u Q T i b D=>?_⟩;have f:∀q∈m,∃r∈ks,q.2=z0 r:=λq t=>by obtain⟨r,o,Z⟩:=xL.mp (b.mem_iff.mp (xL.mpr ⟨q,t,rfl⟩));grind
 refine k l (m.map λq=>(q.1,q.2.getD 0 0,q.2.getD 1 0)) X (B.free (c.free u)) (B.trans (c.trans Q)) (by ext) (λg V=>?_) ?_ ?_
 ·obtain⟨q,t,rfl⟩:=xL.mp V;obtain⟨r,_,e⟩:=f q t;have:=(i q t).2;rw[e] at this;rw[e];exact aG.of this
 ·have o:=b.map λl:List Int=>(l.getD 0 0,l.getD 1 0);rw[zAa] at o ⊢;rw[zAa] at o;exact o.trans (List.Perm.of_eq ((List.map_congr_left λr _=>rfl).trans (List.map_id _)))
 ·rw[zAa];refine zAh.mpr (List.Pairwise.imp_of_mem (λ{x y} W N h=>?_) D);obtain⟨kx,_,F⟩:=f x W;obtain⟨Y,_,E⟩:=f y N;rw[F,E] at h;show HT.lexLt [x.2.getD 0 0,x.2.getD 1 0] [y.2.getD 0 0,y.2.getD 1 0]=true;rw[F,E];exact h
theorem Mb {E:XK}{u n o:TE}{R:VK}{t:M1}(F:Fo K C M H s A)(W:Wd K P w M G L H)(ha:Gv u σ H (.ref s))(Z:∀H',ah H H'->Gv n σ H' (.int ((d+1:Nat):Int)))(x:∀H',ah H H'->Gv o σ H' (.ref t))(e:H t=some (.dK (bW ks)))(D:Dn G d ks S)(hL:L<=16000000)(k:∀r G' H',Go K P w M G H (L+1) G' H'->Is G' (d+1) r (λv=>∃f g,v=f::g/\S f g)->R (.int r) H') : ud C "number_for" (wu K P w C) [] E u (cA n (cA (oN uv (cA (Ic K "dict" ES o dR) dR)) dR)) σ H R:=by
 obtain⟨dx,ob⟩:=F.ob;have B:=lB D.nd D.fld;have:=W.wf.few;refine bQ ha ob rfl λH1 i=>qX (Z H1 i) λU j=>IC (RQ (x U (i.trans j)) ((i.trans j) _ _ e) (by lia) λl V H3 hl Y m T b J=>?_);have a:=i.trans (j.trans Y);refine⟨s,l,d,A,M,G,L,V,rfl,F.same a,W.same a,ay.of m,T,⟨?_,λp h=>D.fld p (b.mem_iff.mp h),λp h=>?_⟩,hL,λr G' H' y X=>k r G' H' (y.pre a) (X.iff λv=>?_)⟩
 ·have h1:=zAh.mp ((b.map _).nodup_iff.mpr D.nd);refine (h1.and J).imp λ{p q} h=>?_;have O:=h.2;rw[HT.eV] at O;ext
 ·have:=(D.is p.1).1;rw[pD D.nd (b.mem_iff.mp h)] at this;symm
 ·constructor
  ·rintro⟨f,r,p,e,c,I⟩;have N:=pD D.nd (b.mem_iff.mp c);exact⟨f,r,e,((D.is f).2 r).mp (by rw[N]; exact I)⟩
  ·rintro⟨f,r,e,Q⟩;have c:=((D.is f).2 r).mpr Q;exact⟨f,r,_,e,b.mem_iff.mpr (tO λz=>by rw[z] at c; exact cE W.wf c),c⟩
end
theorem wA {D:Ends}(o:Gv h σ H (.ref a))(j:∀H',ah H H'->Gv d σ H' (.int f))(e:H a=some (.dK kvs))(l:kvs.length < PK)(k:∀H',ah H H'->D.nx σ (upd H' a (.dK (putK kvs (.inl f) v)))) : h σ H λx b=>d σ b λy m=>∃a g,x=.ref a/\Bb m a y v g/\D.nx σ g:=o _ λn c=>j n c _ λb i=>⟨a,_,rfl,Bb.k (k:=.inl f) ((c.trans i) _ _ e) l,k b (c.trans i)⟩
theorem RS (W:WF G)(l:((aZ G a).map (·.1)).Nodup)(i:List Int):(∃q∈aZ G b,∃r,i=q.1::r/\j3 G d (cK (aZ G a) q.1) q.2 r)↔j3 G (d+1) a b i:=by
 constructor
 ·rintro⟨q,m,r,e,h,n⟩;exact⟨⟨q.1,r,_,e,tO λz=>by rw[z] at h; exact cE W h,h⟩,q.1,r,_,e,m,n⟩
 ·rintro⟨⟨f,r,p,e,k,o⟩,t,s,u,j,c,g⟩;rw[e] at j;cases j;exact⟨_,c,r,e,by rw[pD l k]; symm,g⟩
theorem Mc (W:WF G)(l:((aZ G a).map (·.1)).Nodup)(j:List Int):(∃f g,j=f::g/\(Mem G d (cK (aZ G a) f) g\/∃q∈aZ G b,q.1=f/\Mem G d q.2 g))↔ja G (d+1) a b j:=by
 constructor
 ·rintro⟨f,g,e,h | ⟨q,k,rfl,h⟩⟩;·exact .inl ⟨f,g,_,e,tO λz=>by rw[z] at h; exact cE W h,h⟩
  ·exact .inr ⟨q.1,g,q.2,e,k,h⟩
 ·rintro (⟨f,r,p,e,c,i⟩ | ⟨f,r,p,e,c,i⟩);·exact⟨f,r,e,.inl (by rw[pD l c]; exact i)⟩
  ·exact⟨f,r,e,.inr ⟨_,c,rfl,i⟩⟩
end WD
namespace fX
open PySem PySem.Spec PyProof.Rows L2 kg TB WD
section
variable {P:zAA}{w:zAE}{K:zzA}{mg:Str->Option Value}{base:Heap}{t:Ad}
theorem Me (d:σ[2]?=some (some (.int a)))(c:σ[3]?=some (some (.int b))):Gt (O7 (qG (cT Ea (cF 2) (tC (.int 0)))) (O7 (qG (cT Ea (cF 3) (tC (.int 0)))) (qG (cT Ea (cF 2) (cF 3))))) σ H (decide (a=0)||(decide (b=0)||decide (a=b))):= di (ug (bF (dz (aa d) (λ_ _=>az) rfl)) λ_ _ _=>ug (bF (dz (aa c) (λ_ _=>az) rfl)) λ_ _ _=>bF (dz (aa d) (λ_ _=>aa c) rfl)) (by simp)
theorem fC:aN ["self","depth","one","other","name","found"] ["self","depth","one","other"] (aE dZ):=cI
theorem tU (T:Txt K mg t):∀N:Nat,aL P w K mg base bg (N+2) t.mG t.fO ["self","depth","one","other"] (FO K P w t.aF j3 N):=by have g:=bx (P:=P) (w:=w) (base:=base) T;intro N;induction N with
 | zero=>
  refine T.gW.fn.ok fC (λvs H Q E h=>?_) (λcdv Ar outer sh H vs Q E B h=>?_)
  ·obtain⟨s,d,a,b,A,M,G,L,rfl,_⟩:=h;rfl
  ·obtain⟨s,d,a,b,A,M,G,L,rfl,hd,_⟩:=h;ext| succ N j=>
 refine T.gW.fn.ok fC (λvs H Q E h=>?_) (λcdv Ar outer sh H vs Q E B h=>?_)
 ·obtain⟨s,d,a,b,A,M,G,L,rfl,_⟩:=h;rfl
 obtain⟨s,d,a,b,A,M,G,L,rfl,hd,F,W,D,hb,hL,kk⟩:=h;refine⟨_,(aj (bG (PW.pt (qE (a_ dQ (pv 2) ao rfl) (qE (a_ dQ (pv 3) ao rfl) (sJ (a_ dQ (pv 2) (pv 3) rfl))))) (av (aK (yC (a_ dQ (pv 3) ao rfl) ao (pv 2)))) aW) (aj (bG (a_ dQ (pv 1) ao rfl) (av (aK (aC vC (pv 2) (pv 3)))) aW) (aj (bh 4 fC.nd (bw (af (aH Px (by rfl) T.PJ boot_min (af (pv 2) (af (pv 3) ai))) (af (aH Py (by rfl) T.PD boot_max (af (pv 2) (af (pv 3) ai))) ai)))) (aj (bG (iU (pC K P w B.j5 (pv 4) (bf K (pv 0)))) (aj (bh 5 fC.nd (gM (LC K) (by rfl) T.Fe boot_dict (af (aI (cO K) (bf K (pv 0)) (pv 2) (λ_ _=>rfl)) ai))) (av (ur K P w B.j5 (bf K (pv 0)) (pv 4) (cM T.bC T.aX g B aM (pv 0) (af (pv 1) (af (gg ["field","part","self","depth","found"] [none,none,some 0,some 1,some 5] (qJ K (aI (cO K) (bf K (pv 0)) (pv 3) (λ_ _=>rfl))) (λ_ _ _ _ nd=>⟨(jd K (n:=2) (aY (bu 0 nd) (aY (bu 1 nd) fm))),bT,(bw (af (pv 0) (af (cM T.gW T.aX j B aM (pv 2) (af (aC cX (pv 3) ao) (af (nv (iG B) (pv 4) (pv 0) ao ⟨rfl,rfl,rfl,rfl⟩) (af (pv 1) ai)))) ai)))⟩)) ai))) rfl))) aW) (av (aK (xG K P w B.j5 (bf K (pv 0)) (pv 4) (λ_ _=>rfl)))))))),?_⟩;refine eG (Me rfl rfl) (λe H1 s1=>?_) λe H1 s1=>?_
 ·refine bU (v:=.int (if b=0 then 0 else a)) (Pf (p:=decide (b=0)) (di (bF (dz aa (λ_ _=>az) (by rfl))) (by simp)) (λc _ _=>aR az (by ext)) λc _ _=>aR aa (by ext)) λH2 s2=>?_;refine kk _ G H2 (W.go (s1.trans s2) (by simp)) ?_;have z:∀{o},¬ Mem G d 0 o:=cE W.wf;by_cases hb0:b=0
  ·rw[v6 hb0,hb0];exact⟨.zero,λo=>⟨λq=>absurd q z,λq=>absurd q.2 z⟩⟩
  ·rw[xI hb0];by_cases ha0:a=0
   ·rw[ha0];exact⟨.zero,λo=>⟨λq=>absurd q z,λq=>absurd q.1 z⟩⟩
   ·obtain rfl:a=b:=by ext
    exact⟨D,λo=>⟨λq=>⟨q,q⟩,λq=>q.1⟩⟩
 obtain⟨a0,b0⟩:a≠0/\b≠0:=by ext
 refine eG (b:=decide (d=0)) (di (bF (dz aa (λ_ _=>az) (by rfl))) DF) (λe H2 s2=>?_) λe H2 s2=>?_
 ·obtain rfl:d=0:=zAi e;obtain⟨c0,c1⟩:=xM D.nonneg hb.nonneg;refine bU (aO aa λ_ _=>aa) λH3 s3=>kk _ G H3 (W.go (s1.trans (s2.trans s3)) (by simp)) ⟨⟨c0,n_ c0 λf hf=>wh D.2 ((c1 f).mp hf).1⟩,λo=>⟨?_,?_⟩⟩
  ·rintro⟨f,rfl,hf⟩;exact⟨⟨f,rfl,((c1 f).mp hf).1⟩,f,rfl,((c1 f).mp hf).2⟩
  ·rintro⟨⟨f,rfl,hf⟩,f',e,hg⟩;cases e;exact⟨f,rfl,(c1 f).mpr ⟨hf,hg⟩⟩
 obtain⟨d,rfl⟩:∃k,d=k+1:=⟨d - 1,by grind⟩;have U:=LZ a b;generalize hlo:(if b < a then b else a)=lo at U;generalize hhi:(if b > a then b else a)=hi at U;refine aP ((au (aR (ID (au aa λ_ _=>aA aa)) (zAz V.int hlo)) λ_ _=>aA (aR (IE (au aa λ_ _=>aA aa)) (zAz V.int hhi))) _ λH3 s3=>⟨(by show 2<=PK; decide),λnm hnm=>?_⟩);have O:ah H (upd H3 nm (.tup [.int lo,.int hi])):=(s1.trans (s2.trans s3)).trans (ah.new hnm _);have hnk:NK K (upd H3 nm (.tup [.int lo,.int hi])) (dN lo hi) nm:=pG g5;generalize upd H3 nm (.tup [.int lo,.int hi])=H4 at *;clear hnm s3 s2 s1 H3 H2 H1 e;have F4:=F.same O;have W4:=W.same O;obtain⟨dx,ob⟩:=F4.ob;have hL':L+(2+(G.m+1) * cB G.m d)<=15000000:=hL;have fin:∀{G':Gs} {r:Int},Ext G G'->Aj G' lo hi r->Is G' (d+1) r (j3 G (d+1) a b):=λx B=>by
  rcases U with ⟨rfl,rfl⟩ | ⟨rfl,rfl⟩;·exact (B.2.2 d (D.ext x) (hb.ext x)).iff λo=>(qu x D hb o).symm
  ·exact (B.2.2 d (hb.ext x) (D.ext x)).iff λo=>And.comm.trans (qu x D hb o).symm
 refine pF F.cl F.no rfl ob rfl rfl hnk W4 F.mo F.ms (λv H5 s5 hS=>?_) λH5 nx s5 m6=>?_
 ·obtain⟨_,_,r,rfl,B⟩:=hS _ _ rfl;exact kk r G H5 (W.go (O.trans s5) (by simp)) (fin (.refl W.wf) B)
 refine hold λP0 An=>?_;obtain⟨tt,qs,I,u,kR,hft,X⟩:=(F4.same s5).at (W4.same s5) D;obtain⟨m,_,bneA,_⟩:=W.wf.aZ D;obtain⟨l,_,_,_⟩:=W.wf.aZ hb;refine An ?_;have:=W.wf.few;have U3:qs.length<=17:=by have:=m.len; grind
 refine aP (nj (I aa (λ_ _=>aa) _ λH6 s6=>⟨tt,qs,rfl,(hft (bneA a0)).same s6,λq hq=>s6.tup (X q hq),by lia,by have:=m.nd; grind,λfo hfo=>?_⟩));rw[u];have s47:ah H4 (upd H6 fo (.dK (bW (aZ G a)))):=(s5.trans s6).trans (ah.new hfo _);have Oq:(upd H6 fo (.dK (bW (aZ G a)))) fo=some (.dK (bW (aZ G a))):=aq;have Ao:M fo=none:=W4.off (s5.free (s6.free hfo));generalize upd H6 fo (.dK (bW (aZ G a)))=H7 at *;clear hfo s6 H6 I kR hft X u U3 qs tt;refine tS F.cl F.no rfl ob rfl rfl hnk F.mo F.ms m6 λR q=>?_;refine bQ aa (s47 _ _ ob) rfl λH8 s8=>qX aa λH9 s9=>IC ?_;have s79:=s8.trans s9;have U4:=s47.trans s79;refine hold λXq LU=>?_;obtain⟨tt,qs,I,u,kR,_,X⟩:=(F4.same U4).at (W4.same U4) hb;refine LU ?_;have nL:qs.length<=G.m+1:=by have:=l.len; grind
 have C:∀i,i<=G.m+1->i * cB G.m d<=(G.m+1) * cB G.m d:=λi hi=>zA9 _ hi;refine vS (K:=K) (I aa λ_ _=>aa) kR λHa sa hqa=>?_;have Y:=U4.trans sa;refine FJ (S:=λq=>j3 G d (cK (aZ G a) q.1) q.2) (e:=d) (c:=cB G.m d) (by lia) hqa (λq hq=>sa.tup (X q hq)) (W4.same Y) (λ_ _=>rfl) (λi q G' H' R hq y k=>?_) λZ gs G' H' hZ y u7 hg z=>?_
 ·have hc1:=C (i+1) (by grind);rw[zBc] at hc1;have jN:q.2∈aZ G b:=by grind
  have Fi:=(F4.same Y).kw y.kw;obtain⟨IF,q3⟩:=Fi.ob;refine bQ aa q3 rfl λHc sc=>?_;refine (au (v:=.int (d:Int)) (aR (aO aa λ_ _=>az) (by simp)) λHd sd=>au (aR (nG aa ((sc.trans sd) _ _ (y.kw.keep _ _ ((s79.trans sa) _ _ Oq) Ao)) (λ_ _=>aa) λ_ _=>az) (iM (aZ G a) q.2.1)) λ_ _=>aA aa) _ λHe se=>?_;have sce:=sc.trans se;have nA:=FF m q.2.1;have nB:=l.num _ jN;refine⟨s,d,_,q.2.2,A,M,G',L+i * cB G.m d,rfl,by ext,Fi.same sce,y.wd.same sce,nA.ext y.ex,nB.ext y.ex,by rw[y.ex.m]; lia,λr G2 H2 J is2=>?_⟩;rw[y.ex.m] at J;exact k r G2 H2 (J.pre sce) (is2.iff λo=>(qu y.ex nA nB o).symm)
 ·have hc0:=C qs.length nL;refine⟨s,Z,d,A,M,G',L+qs.length * cB G.m d,gs,rfl,(F4.same Y).kw y.kw,y.wd,ay.of u7,hg,z.u6 (by rw[u]; exact l.rise) (by rw[u,y.ex.m]; exact l.fld),by lia,λr G2 H2 J is2=>?_⟩;have go3:=(y.trans J).pre Y;have U5:Is G2 (d+1) r (j3 G (d+1) a b):=is2.iff λo=>(z.PY o).trans (by rw[u]; exact RS W.wf m.nd o);refine q _ _ _ _ go3 (by rw[u4]; lia) (FN (UW go3.ex go3.wd.wf D hb a0 U U5)) λv' H3 go4 hS=>?_;obtain⟨_,_,r',rfl,hr'⟩:=hS _ _ rfl;exact kk r' G2 H3 ((go4.pre O).le (by show _<=L+(2+(G.m+1) * cB G.m d); lia)) (fin go4.ex hr')
theorem cj:aN ["self","depth","one","other","name","found","field","part"] ["self","depth","one","other"] (aE dG):=cI
theorem qB (T:Txt K mg t):∀N:Nat,aL P w K mg base bg (N+2) t.kJ t.kK ["self","depth","one","other"] (FO K P w t.aF ja N):=by have j:=bx (P:=P) (w:=w) (base:=base) T;intro N;induction N with
 | zero=>
  refine T.fQ.fn.ok cj (λvs H Q E h=>?_) (λcdv Ar outer sh H vs Q E I h=>?_)
  ·obtain⟨s,d,a,b,A,M,G,L,rfl,_⟩:=h;rfl
  ·obtain⟨s,d,a,b,A,M,G,L,rfl,hd,_⟩:=h;ext| succ N l=>
 refine T.fQ.fn.ok cj (λvs H Q E h=>?_) (λcdv Ar outer sh H vs Q E I h=>?_)
 ·obtain⟨s,d,a,b,A,M,G,L,rfl,_⟩:=h;rfl
 obtain⟨s,d,a,b,A,M,G,L,rfl,hd,F,W,X,hb,hL,kk⟩:=h;refine⟨_,(aj (bG (PW.pt (qE (a_ dQ (pv 2) ao rfl) (qE (a_ dQ (pv 3) ao rfl) (sJ (a_ dQ (pv 2) (pv 3) rfl))))) (av (aK (yC (a_ dQ (pv 3) ao rfl) (pv 2) (pv 3)))) aW) (aj (bG (a_ dQ (pv 1) ao rfl) (av (aK (aC Jz (pv 2) (pv 3)))) aW) (aj (bh 4 cj.nd (bw (af (aH Px (by rfl) T.PJ boot_min (af (pv 2) (af (pv 3) ai))) (af (aH Py (by rfl) T.PD boot_max (af (pv 2) (af (pv 3) ai))) ai)))) (aj (bG (iU (pC K P w I.j5 (pv 4) (bf K (pv 0)))) (aj (bh 5 cj.nd (gM (LC K) (by rfl) T.Fe boot_dict (af (aI (cO K) (bf K (pv 0)) (pv 2) (λ_ _=>rfl)) ai))) (aj (cS zAl rfl (qJ K (aI (cO K) (bf K (pv 0)) (pv 3) (λ_ _=>rfl))) (jd K (n:=2) (aY (bu 6 cj.nd) (aY (bu 7 cj.nd) fm))) (av (pB (iG I) (pv 5) (pv 6) (cM T.fQ T.aX l I aM (pv 0) (af (aC cX (pv 1) ao) (af (nv (iG I) (pv 5) (pv 6) ao ⟨rfl,rfl,rfl,rfl⟩) (af (pv 7) ai)))) rfl))) (av (ur K P w I.j5 (bf K (pv 0)) (pv 4) (cM T.bC T.aX j I aM (pv 0) (af (pv 1) (af (aH EX (by rfl) T.qh zDA (af (N7 K zCk PySem.F.slot_dict_items PySem.F.type_dict_items ET (pv 5)) ai)) ai))) rfl)))) aW) (av (aK (xG K P w I.j5 (bf K (pv 0)) (pv 4) (λ_ _=>rfl)))))))),?_⟩;refine eG (Me rfl rfl) (λe H1 s1=>?_) λe H1 s1=>?_
 ·refine bU (v:=.int (if b=0 then a else b)) (Pf (p:=decide (b=0)) (di (bF (dz aa (λ_ _=>az) (by rfl))) (by simp)) (λc _ _=>aR aa (by ext)) λc _ _=>aR aa (by ext)) λH2 s2=>?_;refine kk _ G H2 (W.go (s1.trans s2) (by simp)) ?_;have z:∀{o},¬ Mem G d 0 o:=cE W.wf;by_cases hb0:b=0
  ·rw[v6 hb0,hb0];exact⟨X,λo=>⟨.inl,λq=>q.elim id λq=>absurd q z⟩⟩
  ·rw[xI hb0];by_cases ha0:a=0
   ·rw[ha0];exact⟨hb,λo=>⟨.inr,λq=>q.elim (λq=>absurd q z) id⟩⟩
   ·obtain rfl:a=b:=by ext
    exact⟨X,λo=>⟨.inl,λq=>q.elim id id⟩⟩
 obtain⟨a0,b0⟩:a≠0/\b≠0:=by ext
 refine eG (b:=decide (d=0)) (di (bF (dz aa (λ_ _=>az) (by rfl))) DF) (λe H2 s2=>?_) λe H2 s2=>?_
 ·obtain rfl:d=0:=zAi e;obtain⟨c0,c1⟩:=FH X.nonneg hb.nonneg;refine bU (aO aa λ_ _=>aa) λH3 s3=>kk _ G H3 (W.go (s1.trans (s2.trans s3)) (by simp)) ⟨⟨c0,n_ c0 λf hf=>((c1 f).mp hf).elim (wh X.2) (wh hb.2)⟩,λo=>⟨?_,?_⟩⟩
  ·rintro⟨f,rfl,hf⟩;exact ((c1 f).mp hf).elim (λq=>.inl ⟨f,rfl,q⟩) λq=>.inr ⟨f,rfl,q⟩
  ·rintro (⟨f,rfl,hf⟩ | ⟨f,rfl,hf⟩);·exact⟨f,rfl,(c1 f).mpr (.inl hf)⟩
   ·exact⟨f,rfl,(c1 f).mpr (.inr hf)⟩
 obtain⟨d,rfl⟩:∃k,d=k+1:=⟨d - 1,by grind⟩;have P1:=LZ a b;generalize hlo:(if b < a then b else a)=lo at P1;generalize hhi:(if b > a then b else a)=hi at P1;refine aP ((au (aR (ID (au aa λ_ _=>aA aa)) (zAz V.int hlo)) λ_ _=>aA (aR (IE (au aa λ_ _=>aA aa)) (zAz V.int hhi))) _ λH3 s3=>⟨(by show 2<=PK; decide),λnm hnm=>?_⟩);have s04:ah H (upd H3 nm (.tup [.int lo,.int hi])):=(s1.trans (s2.trans s3)).trans (ah.new hnm _);have hnk:NK K (upd H3 nm (.tup [.int lo,.int hi])) (dN lo hi) nm:=pG g5;generalize upd H3 nm (.tup [.int lo,.int hi])=H4 at *;clear hnm s3 s2 s1 H3 H2 H1 e;have F4:=F.same s04;have W4:=W.same s04;obtain⟨dx,ob⟩:=F4.ob;have hL':L+(2+(G.m+1) * cB G.m d)<=15000000:=hL;have fin:∀{O:Gs} {r:Int},Ext G O->Ai O lo hi r->Is O (d+1) r (ja G (d+1) a b):=λx I=>by
  rcases P1 with ⟨rfl,rfl⟩ | ⟨rfl,rfl⟩;·exact (I.2.2 d (X.ext x) (hb.ext x)).iff λo=>(o7 x X hb o).symm
  ·exact (I.2.2 d (hb.ext x) (X.ext x)).iff λo=>Or.comm.trans (o7 x X hb o).symm
 refine pF F.cl F.ne rfl ob rfl rfl hnk W4 F.me F.ms (λv H5 s5 hS=>?_) λH5 nx s5 m6=>?_
 ·obtain⟨_,_,r,rfl,I⟩:=hS _ _ rfl;exact kk r G H5 (W.go (s04.trans s5) (by simp)) (fin (.refl W.wf) I)
 refine hold λP0 An=>?_;obtain⟨tt,Y,hat,eqs,kR,hft,hq2⟩:=(F4.same s5).at (W4.same s5) X;obtain⟨m,_,bneA,_⟩:=W.wf.aZ X;obtain⟨Z,_,_,_⟩:=W.wf.aZ hb;refine An ?_;have:=W.wf.few;have U3:Y.length<=17:=by have:=m.len; grind
 refine aP (nj (hat aa (λ_ _=>aa) _ λH6 s6=>⟨tt,Y,rfl,(hft (bneA a0)).same s6,λq hq=>s6.tup (hq2 q hq),by lia,by have:=m.nd; grind,λfo hfo=>?_⟩));rw[eqs];have J:=s5.trans s6;have s67:ah H6 (upd H6 fo (.dK (bW (aZ G a)))):=ah.new hfo _;have Oq:(upd H6 fo (.dK (bW (aZ G a)))) fo=some (.dK (bW (aZ G a))):=aq;have Ao:M fo=none:=W4.off (J.free hfo);generalize upd H6 fo (.dK (bW (aZ G a)))=H7 at *;clear hat kR hft hq2 eqs U3 Y tt;have s47:=J.trans s67;refine hold λXq LU=>?_;obtain⟨tt,Y,hat,eqs,kR,_,hq2⟩:=(F4.same s47).at (W4.same s47) hb;refine LU ?_;have nL:Y.length<=G.m+1:=by have:=Z.len; grind
 have S:∀i,i<=G.m+1->i * cB G.m d<=(G.m+1) * cB G.m d:=λi hi=>zA9 _ hi;refine Bv (K:=K) (hat aa λ_ _=>aa) kR (λi σ H'=>i<=Y.length/\∃e6 e7 O ks,σ=[some (.ref s),some (.int ((d+1:Nat):Int)),some (.int a),some (.int b),some (.ref nm),some (.ref fo),e6,e7]/\Go K P w M G H6 (L+i * cB G.m d) O H'/\Tk H7 H'/\H' fo=some (.dK (bW ks))/\Dn O d ks λg o=>Mem G d (cK (aZ G a) g) o\/∃q∈(Y.take i).map (·.2),q.1=g/\Mem G d q.2 o) (λH8 s8=>⟨zAb _,none,none,G,aZ G a,by rfl,(W4.same J).go (s67.trans s8) (by simp),.same s8,s8 _ _ Oq,m.nd,m.fld,λg=>⟨FF m g,(by simp)⟩⟩) (λi σ H' h=>by obtain⟨_,e6,e7,O,ks,_,_,h,_⟩:=h; exact h.tup kR) (λi x σ H' hx hP=>?_) fun σ H8 hP=>?_
 ·refine hold λP_9 k_9=>?_;obtain⟨hi,e6,e7,O,ks,rfl,go,tk,C,D⟩:=hP;refine k_9 ?_;rw[v3] at hx;obtain⟨q,hq,rfl⟩:=wT.mp hx;have hil:i < Y.length:=(q0.mp hq).1;have jN:q.2∈aZ G b:=by grind
  have hc1:=S (i+1) (by lia);rw[zBc] at hc1;have htk:Y.take (i+1)=Y.take i++[q]:=by rw[zAm,hq]; rfl
  have Fi:=(F4.same J).kw go.kw;obtain⟨IF,q3⟩:=Fi.ob;refine⟨q.1,_,rfl,tk.tup (hq2 q (j1 hq)),rfl,.int q.2.1,_,rfl,.int q.2.2,_,rfl,rfl,?_⟩;refine bQ aa q3 rfl λHc sc=>?_;refine (au (v:=.int (d:Int)) (aR (aO aa λ_ _=>az) (by simp)) λHd sd=>au (aR (nG aa ((sc.trans sd) _ _ C) (λ_ _=>aa) λ_ _=>az) (iM ks q.2.1)) λ_ _=>aA aa) _ λHe se=>?_;have sce:=sc.trans se;have nB:=Z.num _ jN;refine⟨s,d,_,q.2.2,A,M,O,L+i * cB G.m d,rfl,by ext,Fi.same sce,go.wd.same sce,(D.is _).1,nB.ext go.ex,by rw[go.ex.m]; lia,λr G2 H2 B is2=>?_⟩;rw[go.ex.m] at B;have U6:H2 fo=some (.dK (bW ks)):=B.kw.keep _ _ (sce _ _ C) Ao;have FP:=lB D.nd D.fld;rw[go.ex.m] at FP;refine wA aa (λ_ _=>aa) U6 (by simp [bW]; rw[u4]; lia) λHg sg=>?_;rw[tT];have XF:eX (Hg fo):=by rw[sg _ _ U6]; exact True.intro
  have U:=(go.trans (B.pre sce)).st sg;refine⟨hil,_,_,G2,mO ks q.2.1 r,rfl,?_,(tk.trans ((Tk.same sce).trans (B.kw.tk.trans (.same sg)))).trans (.put XF),aq,D.put B.ex (is2.iff λo=>?_) (by rw[go.ex.m]; exact Z.fld _ jN) λg o z=>?_⟩
  ·rw[zBc,<-add_assoc];exact U.own hfo Ao XF
  ·show Mem O d (cK ks q.2.1) o\/Mem O d q.2.2 o↔_;rw[(D.is q.2.1).2 o,bX go.ex _ _ _ nB,htk,v4];constructor
   ·rintro ((h | ⟨q',u,h1,h2⟩) | h);·exact .inl h
    ·exact .inr ⟨q',zB2 _ u,h1,h2⟩
    ·exact .inr ⟨q.2,by simp,rfl,h⟩
   ·rintro (h | ⟨q',u,h1,h2⟩);·exact .inl (.inl h)
    ·rcases w8.mp u with z | z;·exact .inl (.inr ⟨q',z,h1,h2⟩)
     ·rw[show q'=q.2 by simpa using z] at h2;exact .inr h2
  ·rw[htk,v4];refine or_congr_right ⟨λ⟨q',u,h⟩=>⟨q',zB2 _ u,h⟩,λ⟨q',u,h⟩=>⟨q',(w8.mp u).resolve_right λy=>z ?_,h⟩⟩;rw[<-h.1,show q'=q.2 by simpa using y]
 ·obtain⟨_,e6,e7,O,ks,rfl,go,tk,C,D⟩:=hP;rw[yB] at go D;rw[zAd,eqs] at D;have hc0:=S Y.length nL;refine tS F.cl F.ne rfl ob rfl rfl hnk F.me F.ms m6 λR q=>?_;refine Mb ((F4.same J).kw go.kw) go.wd aa (λ_ _=>aa) (λ_ _=>aa) C D (by lia) λr G2 H2 B is2=>?_;have U:=(go.trans B).pre J;have U5:Is G2 (d+1) r (ja G (d+1) a b):=is2.iff λo=>Mc W.wf m.nd o;refine q _ _ _ _ U (by rw[u4]; lia) (FN (UX U.ex U.wd.wf X hb a0 P1 U5)) λv' H3 go4 hS=>?_;obtain⟨_,_,r',rfl,hr'⟩:=hS _ _ rfl;exact kk r' G2 H3 ((go4.pre s04).le (by show _<=L+(2+(G.m+1) * cB G.m d); lia)) (fin go4.ex hr')
end
end fX
namespace WD
open PySem PySem.Spec PyProof.Rows L2 kg TB
structure WA where
 ll:M1
 cl:M1
 ck:M1
 pk:M1
 dk:M1
noncomputable def wkF (a:M1)(x:Str)(h:Nat)(W:WA):List (Str × V):=[("sets",.ref a),("letters",.str x),("high",.int (h:Int)),("lower_left",.ref W.ll),("closing",.ref W.cl),("choices_known",.ref W.ck),("placed_known",.ref W.pk),("closed_known",.ref W.dk)]
abbrev dM:=zzB
structure j4 (m:Nat)(ts:dM)(u v:Int)(ps:fM):Prop where
 nd:(ps.map (·.1)).Nodup
 fld:∀p∈ps,0<=p.1/\p.1 < m
 nn:∀k,0<=cK ps k
 is:∀k f,k≠-1->(bit (cK ps k) f↔[u,v,f,k]∈ts)
structure mP (m:Nat)(I:M1->Prop)(H:Hp)(ts:dM)(mm:Dt->Option V):Prop where
 no:∀u v,mm (dN u v)=none->∀f k,k≠-1->[u,v,f,k]∉ts
 at_:∀u v x,mm (dN u v)=some x->∃d ps,x=.ref d/\I d/\H d=some (.dK (bW ps))/\j4 m ts u v ps
 inj:∀u v u' v' d,mm (dN u v)=some (.ref d)->mm (dN u' v')=some (.ref d)->u=u'/\v=v'
structure rZ (ts:dM)(ps:fM):Prop where
 nd:(ps.map (·.1)).Nodup
 few:ps.length<=ts.length
 nn:∀k,0<=cK ps k
 is:∀r f,bit (cK ps r) f↔[f,r,-1,-1]∈ts
section
variable {P:zAA}{w:zAE}{K:zzA}{m n:Nat}{I I':M1->Prop}{H H' H0:Hp}{ll cl:M1}{ts:dM}{mm:Dt->Option V}{ps:fM}{x0 x1 x2 x3:Int}
theorem mP.kp (h:mP m I H ts mm)(e:∀d u,I d->H d=some u->I' d/\H' d=some u):mP m I' H' ts mm:=by refine⟨h.no,λu v x g=>?_,h.inj⟩;obtain⟨d,ps,c,b,a,f⟩:=h.at_ u v x g;exact⟨d,ps,c,(e d _ b a).1,(e d _ b a).2,f⟩
theorem lP:[u,v,f,k]∈ts++[[x0,x1,x2,x3]]↔[u,v,f,k]∈ts\/(u=x0/\v=x1/\f=x2/\k=x3):=by simp
theorem Ot (ps:fM)(f r:Int):(mO ps f r).length<=ps.length+1:=by
 unfold mO;split;·rw[yB]; simp
 ·simp
theorem rZ.put (d:-1<=x0)(h:rZ ts ps):rZ (ts++[[x0,x1,-1,-1]]) (mO ps x1 (Builtin.bitOr (cK ps x1) (dJ x0))):=by
 obtain⟨b,c⟩:=FH (h.nn x1) (zC3 (lN x0));refine⟨(wg x1 _ h.nd).1,by have:=Ot ps x1 (Builtin.bitOr (cK ps x1) (dJ x0)); have:=h.few; simp; lia,λk=>?_,λr f=>?_⟩
 ·rw[qw];split;·exact b
  ·exact h.nn k
 ·rw[qw,lP];by_cases a:r=x1
  ·rw[v6 a,c,lC d,a,h.is];exact or_congr_right ⟨λz=>⟨z,rfl,rfl,rfl⟩,λz=>z.1⟩
  ·rw[xI a,h.is];exact⟨.inl,λz=>z.elim id λz=>absurd z.2.1 a⟩
theorem rZ.more (h:rZ ts ps)(a:¬ (x2=-1/\x3=-1)):rZ (ts++[[x0,x1,x2,x3]]) ps:=by refine⟨h.nd,by have:=h.few; simp; lia,h.nn,λr f=>?_⟩;rw[lP,h.is];exact⟨.inl,λz=>z.elim id λz=>absurd ⟨z.2.2.1.symm,z.2.2.2.symm⟩ a⟩
theorem j4.more (h:j4 m ts u v ps)(q:∀f k,k≠-1->¬ (u=x0/\v=x1/\f=x2/\k=x3)):j4 m (ts++[[x0,x1,x2,x3]]) u v ps:=⟨h.nd,h.fld,h.nn,λk f a=>by rw[h.is k f a,lP];exact⟨.inl,λz=>z.elim id λz=>absurd z (q f k a)⟩⟩
theorem mP.more (h:mP m I H ts mm):mP m I H (ts++[[x0,x1,x2,-1]]) mm:=by refine⟨λu v e f k a z=>(lP.mp z).elim (h.no u v e f k a) λz=>a z.2.2.2,λu v x e=>?_,h.inj⟩;obtain⟨d,ps,b,g,i,c⟩:=h.at_ u v x e;exact⟨d,ps,b,g,i,c.more λf k a z=>a z.2.2.2⟩
theorem mP.put (h:mP m I H ts mm)(j:mm (dN x0 x1)=some (.ref d))(L:H d=some (.dK (bW ps)))(c:j4 m ts x0 x1 ps)(q:-1<=x2)(i:0<=x3/\x3 < m) : mP m I (upd H d (.dK (bW (mO ps x3 (Builtin.bitOr (cK ps x3) (dJ x2)))))) (ts++[[x0,x1,x2,x3]]) mm:=by
 obtain⟨y,G⟩:=FH (c.nn x3) (zC3 (lN x2));refine⟨λu v e f k a z=>?_,λu v x e=>?_,h.inj⟩
 ·rcases lP.mp z with z | ⟨rfl,rfl,_⟩;·exact h.no u v e f k a z
  ·rw[j] at e; cases e
 ·obtain⟨s,l,rfl,r,D,C⟩:=h.at_ u v x e;by_cases b:u=x0/\v=x1
  ·obtain⟨rfl,rfl⟩:=b;rw[j] at e;cases e;obtain⟨E,A⟩:=wg x3 (Builtin.bitOr (cK ps x3) (dJ x2)) c.nd;refine⟨d,_,rfl,r,aq,E,λp t=>?_,λk=>?_,λk f a=>?_⟩
   ·rcases (A p.1).mp (xL.mpr ⟨p,t,rfl⟩) with z | z;·rw[z]; exact i
    ·obtain⟨F,o,J⟩:=xL.mp z;rw[<-J];exact c.fld F o
   ·rw[qw];split;·exact y
    ·exact c.nn k
   ·rw[qw,lP];by_cases g:k=x3
    ·rw[v6 g,G,lC q,g,c.is x3 f (by ext)];exact or_congr_right ⟨λz=>⟨rfl,rfl,z,rfl⟩,λz=>z.2.2.1⟩
    ·rw[xI g,c.is k f a];exact⟨.inl,λz=>z.elim id λz=>absurd z.2.2.2 g⟩
  ·have B:s≠d:=λz=>b (h.inj u v x0 x1 d (by rw[<-z]; exact e) j);exact⟨s,l,rfl,r,by rw[aD B]; exact D,C.more λf k a z=>b ⟨z.1,z.2.1⟩⟩
theorem FQ (k:Int):cK [] k=0:=rfl
theorem j4.nil (h:∀f k,k≠-1->[u,v,f,k]∉ts):j4 m ts u v []:=⟨nodup_nil,(by simp),λk=>(by rw[FQ]; simp),λk f a=>⟨λz=>absurd rfl (tP z),λz=>absurd z (h f k a)⟩⟩
theorem RT {z E:M1}{R:V->Hp->Prop}(M:bE K P w H ll mm n)(r:mP m I H ts mm)(S:n < PK)(hz:H z=none)(B:I z)(p:¬ I ll)(O:aG K H E [.int x0,.int x1])(k:∀d H' mm ps,bE K P w H' ll mm (n+1)->mP m I H' ts mm->mm (dN x0 x1)=some (.ref d)->H' d=some (.dK (bW ps))->j4 m ts x0 x1 ps->I d->Tk H H'->(∀b o,H b=some o->b≠ll->H' b=some o)->(∀b,H b≠none->H' b≠none)->R (.ref d) H'):N3 K P w (upd H z (.dK [])) ll (.ref E) (.ref z) R:=by
 have c:ah H (upd H z (.dK [])):=ah.new hz _;have f:=r.kp λd u i e=>⟨i,c _ _ e⟩;have g:=M.same c;refine⟨mm,n,dN x0 x1,E,g,S,rfl,pG (c.tup O),λv e=>?_,λe o D=>?_⟩
 ·obtain⟨d,ps,rfl,U,N,W⟩:=f.at_ _ _ _ e;exact k d _ mm ps (g.le (zCg _)) f e N W U (.same c) (λb o e _=>c b o e) (dm c)
 ·have T:z≠ll:=λq=>p (q ▸ B);have L:upd (upd H z (.dK [])) ll o z=some (.dK (bW [])):=by rw[aD T]; exact aq
  have l:j4 m ts x0 x1 []:=j4.nil (r.no _ _ e);have fresh:∀{u v:Int},mm (dN u v)≠some (.ref z):=λ{u v} q=>by obtain⟨d,ps,J,_,G,_⟩:=r.at_ _ _ _ q;ext
  refine k z _ _ [] D ⟨λu v a=>?_,λu v x a=>?_,λu v A C d t j=>?_⟩ (v6 rfl) L l B ((Tk.same c).trans (.put g.mut)) (λb o e Q=>by rw[aD Q]; exact c b o e) λb h=>nF b (dm c b h)
  ·by_cases q:dN u v=dN x0 x1;·rw[v6 q] at a; cases a
   ·rw[xI q] at a; exact r.no u v a
  ·by_cases q:dN u v=dN x0 x1
   ·rw[v6 q] at a;obtain⟨rfl,rfl⟩:=uG q;exact⟨z,[],(zAy a).symm,B,L,l⟩
   ·rw[xI q] at a;obtain⟨d,ps,J,F,G,X⟩:=f.at_ u v x a;exact⟨d,ps,J,F,(by rw[aD (λ(y:d=ll)=>p (y ▸ F))]; exact G),X⟩
  ·skip;by_cases q:dN u v=dN x0 x1
   ·rw[v6 q] at t;cases t;by_cases s:dN A C=dN x0 x1
    ·obtain⟨rfl,rfl⟩:=uG (q.trans s.symm);exact⟨rfl,rfl⟩
    ·rw[xI s] at j;exact absurd j fresh
   ·rw[xI q] at t;by_cases s:dN A C=dN x0 x1
    ·rw[v6 s] at j;cases j;exact absurd t fresh
    ·rw[xI s] at j;exact r.inj u v A C d t j
structure Tl (K:zzA)(P:zAA)(w:zAE)(H0 H:Hp)(ll cl:M1)(m:Nat)(ts:dM):Prop where
 low:∃mm,bE K P w H ll mm ts.length/\mP m (λa=>H0 a=none) H ts mm
 Aq:∃ps,H cl=some (.dK (bW ps))/\rZ ts ps
 tk:Tk H0 H
 keep:∀b o,H0 b=some o->b≠ll->b≠cl->H b=some o
 live:∀b,H0 b≠none->H b≠none
 hl:H0 ll≠none
 hc:H0 cl≠none
 ne:ll≠cl
theorem Tl.same (h:Tl K P w H0 H ll cl m ts)(s:ah H H'):Tl K P w H0 H' ll cl m ts:=by obtain⟨⟨mm,k,q⟩,⟨ps,g,p⟩,l,a,live,c,j,f⟩:=h;exact⟨⟨mm,k.same s,q.kp λd u i e=>⟨i,s _ _ e⟩⟩,⟨ps,s _ _ g,p⟩,l.trans (.same s),λb o e x y=>s _ _ (a b o e x y),λb h=>dm s b (live b h),c,j,f⟩
end
noncomputable def uI (m:Nat)(t:List Int):Prop:=t.length=4/\∀f∈t,-1<=f/\f < m
inductive yi (K:zzA)(P:zAA)(w:zAE)(C:M1)(vs:List V)(H:Hp)(Q:VK)(E_:XK):Prop| mk (p c:M1) (tl:List Int) (H0:Hp) (m:Nat) (ts:dM) (dx:M1) (fs:List (Str × V)) (ll cl:M1):vs=[.ref p,.ref c]->aG K H c (tl.map V.int)->uI m tl->m<=16->ts.length<=100000->H0 p=some (.ins C dx fs)->p≠ll->p≠cl->fs.lookup ("lower_left":Str)=some (.ref ll)->fs.lookup ("closing":Str)=some (.ref cl)->Tl K P w H0 H ll cl m ts->(∀H',Tl K P w H0 H' ll cl m (ts++[tl])->Q .bq H')->yi K P w C vs H Q E_
noncomputable def o_ (x ls:Str)(k:Int):Prop:=0<=k/\k < x.length/\x.cps.getD k.toNat 0∈ls.cps.toList
noncomputable def wB (l r:Int)(ls:Str):Dt:=.tup [.int l,.int r,.str ls]
structure FU (x:Str)(ts:dM)(l r:Int)(ls:Str)(ps:fM):Prop where
 rise:ps.Pairwise λp q=>p.1 < q.1
 ok:∀p∈ps,o_ x ls p.1/\0<=p.2/\∀f,bit p.2 f↔[l,r,f,p.1]∈ts
 all:∀f k,o_ x ls k->[l,r,f,k]∈ts->∃p∈ps,p.1=k
noncomputable def Pl (x:Str)(ts:dM)(ls:Str):Nat->List Int->List Int->Prop| 0,e,c=>∃u l d rest k,e=u::l::d::rest/\c=u::k::d::rest/\o_ x ls k/\[l,u,d,k]∈ts| j+1,e,c=>∃u a b,e=u::a/\c=u::b/\Pl x ts ls j a b
noncomputable def Mf (h:Nat)(x:Str)(ts:dM)(ls:Str)(G:Gs)(a n r:Int):Prop:= ∀j e:Nat,((e+1:Nat):Int)+a=((h+1+j:Nat):Int)->Num G (e+1) n->Is G (e+1) r λc=>∃b,Mem G (e+1) n b/\Pl x ts ls j b c
noncomputable def Mg (ts:dM)(G:Gs)(n r:Int):Prop:= ∀d,Num G (d+1) n->Is G d r λa=>∃l,Mem G (d+1) n (a++[l])/\[l,a.getLastD 0,-1,-1]∈ts
noncomputable def Ch (K:zzA)(H:Hp)(q:M1)(ps:fM):Prop:=∃b:List (M1 × Int × Int),FL H q (b.map q1)/\b.map (·.2)=ps/\kQ K H b
theorem Ch.tk {K:zzA}(c:Ch K H q ps)(k:Tk H H'):Ch K H' q ps:=by obtain⟨e,f,d,b⟩:=c;exact⟨e,k.fl f,d,b.tk k⟩
noncomputable def U7 (K:zzA)(x:Str)(ts:dM):Sm:=λ_ H d v=>∀l r c,d=wB l r c->∃q b,v=.ref q/\Ch K H q b/\FU x ts l r c b
noncomputable def U8 (h:Nat)(x:Str)(ts:dM):Sm:=λG _ d v=>∀a n b,d=wB a n b->0<=n/\n.toNat < G.B.length/\∃r,v=.int r/\Mf h x ts b G a n r
noncomputable def wC (ts:dM)(G:Gs)(n:Int)(v:V):Prop:=0<=n/\n.toNat < G.B.length/\∃r,v=.int r/\Mg ts G n r
theorem FY (h:wB a b x=wB c d y):c=a/\d=b/\y=x:=by unfold wB at h;ext
section
variable {K:zzA}{h:Nat}{x ls:Str}{ts:dM}{G G':Gs}{row n r:Int}
theorem Mf.ext (X:Ext G G')(g:n.toNat < G.B.length)(q:Mf h x ts ls G row n r):Mf h x ts ls G' row n r:=λj e i f=>by
 have c:=f.back X g;refine ((q j e i c).ext X).iff λk=>⟨?_,?_⟩ <;> rintro⟨d,a,b⟩;·exact⟨d,(bX X _ _ _ c).mpr a,b⟩
 ·exact⟨d,(bX X _ _ _ c).mp a,b⟩
theorem Mg.ext (X:Ext G G')(e:n.toNat < G.B.length)(q:Mg ts G n r):Mg ts G' n r:=λd f=>by
 have c:=f.back X e;refine ((q d c).ext X).iff λg=>⟨?_,?_⟩ <;> rintro⟨l,a,b⟩;·exact⟨l,(bX X _ _ _ c).mpr a,b⟩
 ·exact⟨l,(bX X _ _ _ c).mp a,b⟩
theorem Ou:y9 (U7 K x ts):=λG G' H g d v q _ k l r ls z=>by obtain⟨a,e,b,f,c⟩:=q l r ls z;exact⟨a,e,b,f.tk k,c⟩
theorem Ov:y9 (U8 h x ts):=λG G' H f d v q X _ row n ls z=>by obtain⟨b,a,r,e,c⟩:=q row n ls z;exact⟨b,wS a X.len,r,e,c.ext X a⟩
theorem Ow (G G':Gs)(n:Int)(v:V)(q:wC ts G n v)(X:Ext G G'):wC ts G' n v:=by obtain⟨b,a,r,d,c⟩:=q;exact⟨b,wS a X.len,r,d,c.ext X a⟩
theorem IG (h:aG K H nm [.int a,.int b,.str ls])(c:PyData.strOk ls=true):NK K H (wB a b ls) nm:=by refine NK.of h ?_ (by show (true&&(true&&(PyData.strOk ls&&true)))=true; ext) (by show max 0 (max 0 (max 0 0))<=7; decide);refine⟨_,_,rfl,by rfl,?_⟩;refine⟨_,_,rfl,by rfl,?_⟩;exact⟨_,_,rfl,by rfl,by rfl⟩
end
structure Wo (K:zzA)(P:zAA)(w:zAE)(C:M1)(M:Mp)(H:Hp)(p sa:M1)(W:WA)(x:Str)(h:Nat)(ts:dM):Prop where
 ob:∃dx,H p=some (.ins C dx (wkF sa x h W))
 mp:M p=none
 ml:M W.ll=none
 mc:M W.cl=none
 low:∃mm n,bE K P w H W.ll mm n/\mP x.length (λa=>M a=none) H ts mm
 Aq:∃ps,H W.cl=some (.dK (bW ps))/\rZ ts ps
 ck:M W.ck=some (.mm (U7 K x ts))
 pk:M W.pk=some (.mm (U8 h x ts))
 dk:M W.dk=some (.dk (wC ts))
 mx:x.length<=16
 cl:gK K C
 n1:aV K C "sets"
 n2:aV K C "letters"
 n3:aV K C "high"
 n4:aV K C "lower_left"
 n5:aV K C "closing"
 n6:aV K C "choices_known"
 n7:aV K C "placed_known"
 n8:aV K C "closed_known"
structure Al (K:zzA)(P:zAA)(w:zAE)(CF CW:M1)(M:Mp)(G:Gs)(L:Nat)(H:Hp)(p sa:M1)(A:FA)(W:WA)(x:Str)(h:Nat)(ts:dM):Prop where
 fo:Fo K CF M H sa A
 wo:Wo K P w CW M H p sa W x h ts
 wd:Wd K P w M G L H
 xm:x.length<=G.m
section
variable {P:zAA}{w:zAE}{K:zzA}{H H':Hp}{M M':Mp}{G G':Gs}{L L' h:Nat}{p sa C CF:M1}{A:FA}{W:WA}{x:Str}{ts:dM}{σ:L2.St}{ta:TE}
theorem Wo.kw (F:Wo K P w C M H p sa W x h ts)(k:Kw M H H'):Wo K P w C M H' p sa W x h ts:={ F with
 ob:=F.ob.imp λg e=>k.keep _ _ e F.mp
 low:=by obtain⟨c,n,a,b⟩:=F.low;obtain⟨o,e⟩:=bE.there a;exact⟨c,n,a.keep (by rw[e]; exact k.keep _ _ e F.ml) λq f h=>k.tk.tup h,b.kp λd u i e=>⟨i,k.keep _ _ e i⟩⟩
 Aq:=F.Aq.imp λj h=>⟨k.keep _ _ h.1 F.mc,h.2⟩ }
theorem Wo.same (F:Wo K P w C M H p sa W x h ts)(k:ah H H'):Wo K P w C M H' p sa W x h ts:=F.kw (.same k)
theorem Al.go (S:Al K P w CF C M G L H p sa A W x h ts)(g:Go K P w M G H L' G' H'):Al K P w CF C M G' L' H' p sa A W x h ts:=⟨S.fo.kw g.kw,S.wo.kw g.kw,g.wd,by rw[g.ex.m]; exact S.xm⟩
theorem Al.same (S:Al K P w CF C M G L H p sa A W x h ts)(s:ah H H'):Al K P w CF C M G L H' p sa A W x h ts:=S.go (S.wd.go s (y6 _))
theorem Wo.gs (F:Wo K P w C M H p sa W x h ts)(q:Gv ta σ H (.ref p)):Gv (kh K ta "sets") σ H (.ref sa):=by obtain⟨a,e⟩:=F.ob; exact d_ q e F.cl F.n1 rfl
theorem Wo.gl (F:Wo K P w C M H p sa W x h ts)(q:Gv ta σ H (.ref p)):Gv (kh K ta "letters") σ H (.str x):=by obtain⟨a,e⟩:=F.ob; exact d_ q e F.cl F.n2 rfl
theorem Wo.gh (F:Wo K P w C M H p sa W x h ts)(q:Gv ta σ H (.ref p)):Gv (kh K ta "high") σ H (.int (h:Int)):=by obtain⟨a,e⟩:=F.ob; exact d_ q e F.cl F.n3 rfl
end
noncomputable def cR (m d:Nat):Nat:=(m+1) * (1+(m+1) * (2+cB m d))+1
noncomputable def PR (x:Str)(ts:dM)(ls:Str)(u l:Int)(b:List Int)(k:Int):Prop:=∃a rest,b=a::rest/\o_ x ls k/\[l,u,a,k]∈ts
theorem FU.len (h:FU x ts l r ls ps):ps.length<=x.length+1:= lB (zAh.mpr (h.rise.imp (by lia))) λp a=>⟨by have:=(h.ok p a).1.1; exact zC3 this,(h.ok p a).1.2.1⟩
noncomputable def cP (m a:Nat):Nat->Nat| 0=>(m+1) * cR m a+2| j+1=>(m+1) * cP m a j+2
section
variable {x ls:Str}{ts:dM}{h j e:Nat}{f u row n r:Int}{fs gs:List Int}{G G':Gs}
theorem RU (h:Pl x ts ls j (f::fs) gs):∃r,gs=f::r:=by cases j with| zero=> obtain⟨u,l,d,rest,k,e,c,_⟩:=h;ext| succ j=> obtain⟨u,a,b,e,c,_⟩:=h;ext
theorem II:Pl x ts ls 0 (u::fs) (u::gs)↔∃l a k,gs=k::a/\fs=l::a/\PR x ts ls u l a k:=by
 constructor
 ·rintro⟨i,l,b,rest,k,e,g,d,c⟩;cases e;cases g;exact⟨l,b::rest,k,rfl,rfl,b,rest,rfl,d,c⟩
 ·rintro⟨l,a,k,rfl,rfl,b,rest,rfl,d,c⟩;exact⟨u,l,b,rest,k,rfl,rfl,d,c⟩
theorem IJ:Pl x ts ls (j+1) (u::fs) (u::gs)↔Pl x ts ls j fs gs:=by
 constructor
 ·rintro⟨d,a,b,e,c,h⟩;cases e;cases c;symm
 ·exact λh=>⟨u,fs,gs,rfl,rfl,h⟩
noncomputable def CA (G:Gs)(x:Str)(ts:dM)(ls:Str)(j d:Nat)(n:Int):List Int->Prop:=λgs=>∃fs,Mem G d n fs/\Pl x ts ls j fs gs
theorem IK (X:Ext G G')(h:Num G d n)(gs:List Int):CA G' x ts ls j d n gs↔CA G x ts ls j d n gs:=by
 constructor <;> rintro⟨fs,a,b⟩;·exact⟨fs,(bX X _ _ _ h).mp a,b⟩
 ·exact⟨fs,(bX X _ _ _ h).mpr a,b⟩
theorem U9 (c:WF G')(X:Ext G G')(o:((e+1:Nat):Int)+row=((h+1+j:Nat):Int))(g:Num G (e+1) n)(q:Is G' (e+1) r (CA G x ts ls j (e+1) n)):Mf h x ts ls G' row n r:=by
 intro i m k l;by_cases d:n=0
 ·subst d;obtain rfl:=is_none c q λfs ⟨b,a,_⟩=>cE X.w a;exact⟨.zero,λfs=>⟨λz=>absurd z (cE c),λ⟨b,a,_⟩=>absurd a (cE c)⟩⟩
 ·obtain rfl:=(g.ext X).depth l d;obtain rfl:j=i:=by lia
  exact q.iff λfs=>(IK X g fs).symm
noncomputable def U_ (G:Gs)(x:Str)(ts:dM)(ls:Str)(d:Nat)(n:Int):List Int->Prop:=λgs=>∃a k,gs=k::a/\Mem G d n a/\PR x ts ls (-1) (-1) a k
noncomputable def P4 (m h:Nat):Nat->Nat| 0=>2+(m+1) * 2| r+1=>cP m (h - (r+1) - 1) r
noncomputable def P5 (h:Nat):Nat->Nat| 0=>h| _+1=>h+1
noncomputable def P6 (G:Gs)(x:Str)(ts:dM)(ls:Str)(h:Nat):Nat->Int->List Int->Prop| 0,n=>U_ G x ts ls h n| r+1,n=>CA G x ts ls r (h+1) n
end
end WD
namespace fX
open PySem PySem.Spec PyProof.Rows L2 kg TB WD
section
variable {P:zAA}{w:zAE}{K:zzA}{mg:Str->Option Value}{base:Heap}{t:Ad}
theorem Mh {f:TT}{ts us:TS}{D:Ends}{σ:L2.St}{H:Hp}{b:Bool}(R:L2.St->Hp->Prop)(h:Gt f σ H b)(k1:b=true->∀H',ah H H'->∀nx:L2.St->Hp->Prop,(∀σ H,R σ H->nx σ H)->ts { D with nx:=nx } σ H')(k0:b=false->∀H',ah H H'->R σ H') (k:∀σ H,R σ H->us D σ H):eY (AW f ts xx) us D σ H:=eG h (λc a d=>k1 c a d (us D) k) λc a d=>k _ _ (k0 c a d)
theorem jO:aN ["self","tile","upper","found"] ["self","tile"] (aE fH):=cI
theorem wD (T:Txt K mg t):aL P w K mg base bg 2 t.oO t.g7 ["self","tile"] (yi K P w t.bB):=by
 have g:=qZ (P:=P) (w:=w) (base:=base) T;refine T.qR.fn.ok jO (λvs H Q E h=>?_) (λcdv Ar outer sh H vs Q E hr h=>?_)
 ·obtain⟨p,c,tl,R,m,ts,dx,fs,ll,Z,rfl,_⟩:=h;rfl
 obtain⟨p,c,tl,R,m,ts,dx,fs,ll,Z,rfl,hc,L,hm,hts,hp,Va,XG,fll,XH,TL,kk⟩:=h;refine⟨_,(aj (bh 2 jO.nd (bw (af (aI (cQ K) (pv 1) ao (λ_ _=>rfl)) (af (aI (cQ K) (pv 1) ao (λ_ _=>rfl)) ai)))) (aj (bG (PW.pt (KP (a_ dQ (aI (cQ K) (pv 1) ao (λ_ _=>rfl)) (eu rfl T.gn T.gp) rfl) (HV (a_ dQ (aI (cQ K) (pv 1) ao (λ_ _=>rfl)) (eu rfl T.gn T.gp) rfl)))) (av (pB (iG hr) (bf K (pv 0)) (aI (cQ K) (pv 1) ao (λ_ _=>rfl)) (aC Jz (nv (iG hr) (bf K (pv 0)) (aI (cQ K) (pv 1) ao (λ_ _=>rfl)) ao ⟨rfl,rfl,rfl,rfl⟩) (cD T.tG g hr aM (af (aI (cQ K) (pv 1) ao (λ_ _=>rfl)) ai))) rfl)) aW) (av (bG (a_ zC (aI (cQ K) (pv 1) ao (λ_ _=>rfl)) (eu rfl T.gn T.gp) rfl) (aj (bh 3 jO.nd (WO K P w hr.j5 (bf K (pv 0)) (pv 2) pT ⟨rfl,rfl,rfl,rfl⟩)) (av (pB (iG hr) (pv 3) (aI (cQ K) (pv 1) ao (λ_ _=>rfl)) (aC Jz (nv (iG hr) (pv 3) (aI (cQ K) (pv 1) ao (λ_ _=>rfl)) ao ⟨rfl,rfl,rfl,rfl⟩) (cD T.tG g hr aM (af (aI (cQ K) (pv 1) ao (λ_ _=>rfl)) ai))) rfl))) aW)))),?_⟩;refine hold λPu k_1=>?_;obtain⟨F,A,J,l,rfl⟩:∃F A J l,tl=[F,A,J,l]:=by match tl,L.1 with| [F,A,J,l],_=>lia
 refine k_1 ?_;have XI:=L.2 F (by simp);have XJ:=L.2 A (by simp);have Pq:=L.2 J (by simp);have XM:=L.2 l (by simp);have I:∀{C:Hp} {σ:L2.St} {j:Nat} {v:Int},aG K C c ([F,A,J,l].map V.int)->σ[1]?=some (some (.ref c))->[F,A,J,l][j]?=some v->Gv (cT (yI K) (cF 1) (tC (V.int (j:Int)))) σ C (.int v):=λ{C σ j v} hc h1 h2=>cG (K:=K) (aa h1) (λ_ _=>az) hc (bL (by grind));have obj:∀{C:Hp} {ts':dM},Tl K P w R C ll Z m ts'->C p=some (.ins t.bB dx fs):=λh=>h.keep _ _ hp Va XG;refine aP ((au (I (j:=0) (v:=F) hc rfl rfl) λH1 s1=>aA (I (j:=1) (v:=A) (s1.tup hc) rfl rfl)) _ λH1 s1=>⟨(by show 2<=PK; decide),λup hup=>?_⟩);have s2:ah H (upd H1 up (.tup [.int F,.int A])):=s1.trans (ah.new hup _);have X:aG K (upd H1 up (.tup [.int F,.int A])) up [.int F,.int A]:=g5;generalize upd H1 up (.tup [.int F,.int A])=H2 at s2 X;have cW:=T.eT;have N:=s2.tup hc;have M:=TL.same s2;clear TL hc;refine Mh (b:=decide (J=-1)&&decide (l=-1)) (fun σ' C=>σ'=[some (.ref p),some (.ref c),some (.ref up),none]/\Tk H2 C/\(∃mm,bE K P w C ll mm ts.length/\mP m (λa=>R a=none) C ts mm)/\(∃W,C Z=some (.dK (bW W))/\rZ (ts++[[F,A,J,l]]) W)/\Tk R C/\(∀b o,R b=some o->b≠ll->b≠Z->C b=some o)/\∀b,R b≠none->C b≠none) (Lc (di (bF (dz (I (j:=2) (v:=J) N rfl rfl) (λ_ _=>az) rfl)) (by simp)) λ_ H3 Y=>di (bF (dz (I (j:=3) (v:=l) (Y.tup N) rfl rfl) (λ_ _=>az) rfl)) (by simp)) (λcd H3 Y nx m6=>?_) (λcd H3 Y=>?_) fun σ' H3 hR=>?_
 ·obtain⟨rfl,rfl⟩:J=-1/\l=-1:=by ext
  have k:=M.same Y;obtain⟨W,ec,cm⟩:=k.Aq;have G:=Y.tup N;refine (aR (aO (aR (nG (d_ aa (obj k) cW T.fB XH) ec (λH4 y=>I (j:=1) (v:=A) (y.tup G) rfl rfl) λ_ _=>az) (iM W A)) λH4 y=>qv (aA (I (j:=0) (v:=F) (y.tup G) rfl rfl)) XI.1 (by lia)) rfl) _ λH4 y=>?_;have XN:=k.same y;refine wA (d_ aa (obj XN) cW T.fB XH) (λH5 U=>I (j:=1) (v:=A) ((y.trans U).tup G) rfl rfl) (y _ _ ec) (by have:=cm.few; simp [bW]; rw[u4]; lia) λH5 U=>?_;have D:=XN.same U;rw[tT];have mu:eX (H5 Z):=by rw[(y.trans U) _ _ ec]; exact True.intro
  obtain⟨mm,l1,l2⟩:=D.low;refine m6 _ _ ⟨rfl,(Tk.same (Y.trans (y.trans U))).trans (.put mu),⟨mm,l1.keep (aD D.ne) λq xs h=>(Tk.put mu).tup h,l2.kp λd u i e=>⟨i,?_⟩⟩,⟨_,aq,cm.put XI.1⟩,D.tk.trans (.put mu),λb o e n1 n2=>by rw[aD n2]; exact D.keep b o e n1 n2,λb h=>nF b (D.live b h)⟩;rw[aD λ(z:d=Z)=>D.hc (z ▸ i)];symm
 ·have k:=M.same Y;obtain⟨W,ec,cm⟩:=k.Aq;exact⟨rfl,.same Y,k.low,⟨W,ec,cm.more (by simpa using cd)⟩,k.tk,k.keep,k.live⟩
 obtain⟨rfl,S,⟨XO,n3,lm3⟩,⟨XQ,XR,XS⟩,tk3,r,s⟩:=hR;have G:=S.tup N;have hl:=M.hl;have hcl:=M.hc;have Vb:=M.ne;have hp3:=r _ _ hp Va XG;refine fc (b:=!decide (l=-1)) (di (bF (vM (I (j:=3) (v:=l) G rfl rfl) (λ_ _=>az) rfl)) (by simp)) (λcd H4 y=>?_) λcd H4 y=>?_
 ·have acU:l≠-1:=by simpa using cd
  refine aP ((d_ aa (y _ _ hp3) cW T.fj fll) _ λH5 U=>⟨ll,rfl,⟨XO,_,n3.same (y.trans U)⟩,(aa (by rfl)) _ λH6 s6=>λz hz=>?_⟩);have f:=y.trans (U.trans s6);have iz:R z=none:=by cases e:R z with| none=>rfl| some u=>exact absurd (f.free hz) (s z (by rw[e]; nofun))
  refine RT (n3.same f) (lm3.kp λd u i e=>⟨i,f _ _ e⟩) (by rw[u4]; lia) hz iz hl ((S.trans (.same f)).tup X) λd H7 mm W hN7 hM7 hk7 O B Vc tk7 x live7=>?_;have hp7:=x _ _ (f _ _ hp3) Va;have Vd:=tk7.tup (f.tup G);refine (aR (aO (aR (nG aa O (λH8 s8=>I (j:=3) (v:=l) (s8.tup Vd) rfl rfl) λ_ _=>az) (iM W l)) λH8 s8=>qv (aA (I (j:=2) (v:=J) (s8.tup Vd) rfl rfl)) Pq.1 (by lia)) rfl) _ λH8 s8=>?_;refine wA aa (λH9 s9=>I (j:=3) (v:=l) ((s8.trans s9).tup Vd) rfl rfl) (s8 _ _ O) (by have:=lB B.nd (λp hp=>⟨by have:=B.fld p hp; lia,(B.fld p hp).2⟩); simp [bW]; rw[u4]; lia) λH9 s9=>?_;rw[tT];have n:=s8.trans s9;have mu:eX (H9 d):=by rw[n _ _ O]; exact True.intro
  have nd:∀{b o},R b=some o->b≠d:=λe z=>by rw[z,Vc] at e; cases e
  refine kk _ ⟨⟨mm,?_,(hM7.kp λd u i e=>⟨i,n _ _ e⟩).put hk7 (n _ _ O) B Pq.1 ⟨by lia,XM.2⟩⟩,⟨XQ,?_,XS⟩,(tk3.trans ((Tk.same f).trans (tk7.trans (.same n)))).trans (.put mu),λb o e n1 n2=>?_,λb h=>nF b (dm n b (live7 b (dm f b (s b h)))),hl,hcl,Vb⟩
  ·rw[zAf];exact (hN7.same n).keep (aD λ(z:ll=d)=>hl (z ▸ Vc)) λq xs h=>(Tk.put mu).tup h
  ·rw[aD λ(z:Z=d)=>hcl (z ▸ Vc)];exact n _ _ (x _ _ (f _ _ XR) (Ne.symm Vb))
  ·rw[aD (nd e)];exact n _ _ (x _ _ (f _ _ (r b o e n1 n2)) n1)
 ·obtain rfl:l=-1:=by simpa using cd
  exact kk _ (Tl.same ⟨⟨XO,by rw[zAf]; exact n3.le (zCg _),lm3.more⟩,⟨XQ,XR,XS⟩,tk3,r,s,hl,hcl,Vb⟩ y)
theorem Bx {d:TE}{g:TG}{c:TS}{D:Ends}{σ:L2.St}{H:Hp}{a:M1}{xs:List V}(h:Gv d σ H (.ref a))(o:ay K H a xs)(b:Nat->L2.St->Hp->Prop)(l:∀H',ah H H'->b 0 σ H')(k:∀i σ H,b i σ H->ay K H a xs)(j:∀i x σ H,xs[i]?=some x->b i σ H->g x σ H λm e=>c { D with nx:=b (i+1),ct:=b (i+1),bk:=D.nx } m e) (n:∀σ H,b xs.length σ H->D.nx σ H):lS (oV K d) g c D σ H:= h _ λH' s=>⟨a,rfl,(by grind),yE b (l H' s) (λi σ H _ p=>k i σ H p) j n⟩
theorem RV {d:TE}{g:TG}{c us:TS}{D:Ends}{σ:L2.St}{H:Hp}{a:M1}{xs:List V}(h:Gv d σ H (.ref a))(j:ay K H a xs)(b:Nat->L2.St->Hp->Prop)(l:∀H',ah H H'->b 0 σ H')(k:∀i σ H,b i σ H->ay K H a xs)(m:∀i x σ H,xs[i]?=some x->b i σ H->g x σ H λn e=>c { D with nx:=b (i+1),ct:=b (i+1),bk:=us D } n e) (o:∀σ H,b xs.length σ H->us D σ H):eY (lS (oV K d) g c) us D σ H:=Bx (D:={ D with nx:=us D }) h j b l k m o
theorem Ox (h:ay K H a xs)(k:∀b o,H b=some o->(∃ys,o=.lst ys)\/(∃u ys,o=.jo u (.lst ys))->H' b=some o):ay K H' a xs:=by
 rcases h with (h | ⟨o,h⟩) | h;·exact .inl (.inl (k _ _ h (.inl ⟨_,rfl⟩)))
 ·exact .inl (.inr ⟨o,k _ _ h (.inr ⟨_,_,rfl⟩)⟩)
 ·exact .inr h
inductive zc (K:zzA)(P:zAA)(w:zAE)(CF C:M1)(vs:List V)(H:Hp)(Q:VK)(E_:XK):Prop| mk (p sa tl dx:M1) (x:Str) (h:Nat) (ps:zzD) (A:FA) (M:Mp) (G:Gs) (L:Nat):vs=[.ref p,.ref sa,.str x,.ref tl,.int (h:Int)]->H p=some (.ins C dx [])->M p=none->p≠sa->ay K H tl (ps.map rv)->(∀q∈ps,aG K H q.1 (q.2.map V.int))->(∀q∈ps,uI x.length q.2)->x.length<=G.m->ps.length<=100000->Fo K CF M H sa A->Wd K P w M G L H->(∀W M' H',Ex M M' H->Al K P w CF C M' G L H' p sa A W x h (ps.map (·.2))->Kx p H H'->Q .bq H')->zc K P w CF C vs H Q E_
theorem oR:aN ["self","sets","letters","tiles","high","tile"] ["self","sets","letters","tiles","high"] (aE gm):=cI
theorem oS (T:Txt K mg t):aL P w K mg base bg 3 t.lA t.iK ["self","sets","letters","tiles","high"] (zc K P w t.aF t.bB):=by
 have g:=wD (P:=P) (w:=w) (base:=base) T;refine T.nE.fn.ok oR (λvs H Q E h=>?_) (λcdv Ar outer sh H vs Q E hr h=>?_)
 ·obtain⟨p,sa,tl,dx,x,h,B,A,M,G,L,rfl,_⟩:=h;rfl
 obtain⟨p,sa,tl,dx,x,h,B,A,M,G,L,rfl,hp,Y,psa,hq,hps,htl,hx,hlen,F,W,kk⟩:=h;refine⟨_,(aj (jT K (pv 0) (pv 1)) (aj (jT K (pv 0) (pv 2)) (aj (jT K (pv 0) (pv 4)) (aj (jT K (pv 0) (qO K P w)) (aj (jT K (pv 0) pT) (aj (jT K (pv 0) (qO K P w)) (aj (jT K (pv 0) (qO K P w)) (aj (jT K (pv 0) pT) (av (cS zAl rfl (dD K (pv 3)) (bu 5 oR.nd) (av (cU (cM T.qR T.eT g hr aM (pv 0) (af (pv 5) ai)))))))))))))),?_⟩;have c:=T.eT;have R:∀{σ:L2.St} {J:Hp},σ[0]?=some (some (.ref p))->Gv (cF 0) σ J (.ref p):=λh=>aa h;refine Bu aa (λJ=>R rfl) hp W Y c T.mJ (by decide) λH1 W1 k1 p1=>?_;refine Bu aa (λJ=>R rfl) p1 W1 Y c T.jk (by show 1 < 1000; decide) λH2 W2 k2 p2=>?_;refine Bu aa (λJ=>R rfl) p2 W2 Y c T.mK (by show 2 < 1000; decide) λH3 W3 k3 p3=>?_;refine Oj (λJ=>R rfl) p3 W3 Y c T.fj (by show 3 < 1000; decide) λm H4 P7 n4 W4 k4 p4=>?_;refine FI (λJ=>R rfl) p4 W4 Y c T.fB (by show 4 < 1000; decide) λs H5 U e5 W5 k5 p5=>?_;refine tQ (U7 K x (B.map (·.2))) Ou (λJ=>R rfl) p5 W5 Y c T.lI (by show 5 < 1000; decide) λck M6 H6 mk6 x6 mp6 W6 k6 hck p6=>?_;refine tQ (U8 h x (B.map (·.2))) Ov (λJ=>R rfl) p6 W6 mp6 c T.fR (by show 6 < 1000; decide) λpk V H7 mk7 x7 mp7 W7 k7 hpk p7=>?_;refine FI (λJ=>R rfl) p7 W7 mp7 c T.fS (by show 7 < 1000; decide) λdk X hdk e8 XT k8 p8=>?_;have dp:dk≠p:=λz=>by ext
 have lp:m≠p:=λz=>by ext
 have cp:s≠p:=λz=>by ext
 have W8:Wd K P w (iL V dk (.dk (wC (B.map (·.2))))) G L X:=XT.add ⟨Ow,[],e8,zAb _,λ_ _ z=>nomatch z⟩ nofun;have x8:Ex V (iL V dk (.dk (wC (B.map (·.2))))) H7:=.add W7 hdk;have mp8:iL V dk (.dk (wC (B.map (·.2)))) p=none:=by rw[jb (Ne.symm dp)]; symm
 have mk8:iL V dk (.dk (wC (B.map (·.2)))) dk=some (.dk (wC (B.map (·.2)))):=lO;generalize iL V dk (.dk (wC (B.map (·.2))))=M8 at *;clear XT;have N:Ex M M8 H5:=x6.trans (x7.trans x8 k7.live) k6.live;have C:=k1.trans (k2.trans k3);have k05:=C.trans (k4.trans k5);have O:=k6.trans (k7.trans k8);have j:=k05.trans O;have XU:Ex M M8 H:=⟨N.old,λa z e=>N.new a (k05.live a z) e⟩;have XW:=k5.live m (by obtain⟨o,z⟩:=bE.there n4; ext);have cl5:H5 s≠none:=by ext
 have ml:=N.new m XW (W3.off P7);have mc:=N.new s cl5 (W4.off U);have d1:m≠s:=λz=>by obtain⟨o,y⟩:=bE.there n4; ext
 have n48:=bE.kx n4 (k5.trans O) lp;have e58:=O.keep _ _ e5 cp;have T8:Tl K P w X X m s x.length []:=⟨⟨_,n48,⟨(by simp),λu v z e=>(by ext),λu v u2 v2 d e=>(by simp)⟩⟩,⟨[],e58,⟨nodup_nil,y6 _,λk=>by rw[FQ]; simp,λr f=>⟨λz=>absurd rfl (tP z),λz=>absurd z (by simp)⟩⟩⟩,.refl,(by lia),λ_ h=>h,O.live m XW,(by ext),d1⟩;have D:∀{I:Hp} {ts:dM},Tl K P w X I m s x.length ts->ay K I tl (B.map rv):=λ{I ts} q=>Ox hq λb o e z=>by
  have bp:b≠p:=λy=>by grind
  exact q.keep b o (j.keep b o e bp) (λy=>by rw[y] at e; have:=C.live m (by ext); ext) λy=>by rw[y] at e; have:=(C.trans k4).live s (by ext); exact this U
 have hxm:=W.wf.few;refine Bx (K:=K) aa (D T8) (λi σ I=>∃e5,σ=[some (.ref p),some (.ref sa),some (.str x),some (.ref tl),some (.int (h:Int)),e5]/\Tl K P w X I m s x.length ((B.take i).map (·.2))) (λI s9=>⟨none,rfl,T8.same s9⟩) (λi σ I z=>by obtain⟨_,_,z⟩:=z; exact D z) (λi v σ I hv z=>?_) fun σ I z=>?_
 ·obtain⟨e5,rfl,l⟩:=z;rw[v3] at hv;obtain⟨q,XX,rfl⟩:=wT.mp hv;have Z:=j1 XX;refine jt (bQ aa (l.keep _ _ p8 (Ne.symm lp) (Ne.symm cp)) rfl λHA sA=>(aA aa) _ λHB sB=>?_);have tB:=l.same (sA.trans sB);refine⟨p,q.1,q.2,X,x.length,_,dx,_,m,s,rfl,tB.tk.tup (j.tk.tup (hps q Z)),htl q Z,by lia,?_,p8,Ne.symm lp,Ne.symm cp,rfl,rfl,tB,λHC tC=>⟨_,rfl,?_⟩⟩;·rw[yB,zBv]; lia
  ·rw[zAm,XX,v4];exact tC
 ·obtain⟨e5,rfl,l⟩:=z;rw[yB,zAd] at l;obtain⟨mm,l1,l2⟩:=l.low;have nm8:∀a k,M8 a=some k->a≠m/\a≠s:=λa k e=>⟨λz=>(by rw[z,ml] at e; cases e),λz=>(by rw[z,mc] at e; cases e)⟩;have W9:=W8.chg l.tk (λa k e=>by obtain⟨o,z⟩:=(W8.kd a k e).some;rw[z]; exact l.keep a o z (nm8 a k e).1 (nm8 a k e).2) (y6 _);have S:∀{b:M1},H b≠none->b≠m/\b≠s:=λ{b} z=>⟨λy=>C.live b z (by rw[y]; exact P7),λy=>(C.trans k4).live b z (by rw[y]; exact U)⟩;obtain⟨XY,Mi⟩:=F.ob;have P8:H sa≠none:=by rw[Mi]; nofun
  have F8:=(F.ex XU).kx j (Ne.symm psa);obtain⟨dx8,ob8⟩:=F8.ob;refine kk ⟨m,s,ck,pk,dk⟩ M8 I XU ⟨{ F8 with ob:=⟨dx8,l.keep _ _ ob8 (S P8).1 (S P8).2⟩ },⟨⟨dx,l.keep _ _ p8 (Ne.symm lp) (Ne.symm cp)⟩,mp8,ml,mc,⟨mm,_,l1,l2.kp λd u i e=>⟨W8.off i,e⟩⟩,l.Aq,x8.old _ _ (x7.old _ _ mk6),x8.old _ _ mk7,mk8,by lia,c,T.mJ,T.jk,T.mK,T.fj,T.fB,T.lI,T.fR,T.fS⟩,W9,hx⟩ ⟨j.tk.trans l.tk,λb o e n=>?_,λb z=>l.live b (j.live b z)⟩;have:=S (b:=b) (by rw[e]; nofun);exact l.keep b o (j.keep b o e n) this.1 this.2
end
end fX
namespace L2
open PySem PySem.Spec PyProof.Rows
theorem Inv.freeze (I:Inv X d σ H s)(h:H p=some (.lst xs)):∃o,Inv X d σ (upd H p (.jo o (.lst xs))) s:=by
 have g:=I.hok p _ h;obtain⟨o,e⟩:=g.obj;have f:∀{b:M1} {u:HO},H b=some u->(∀i,u≠.lst i)->b≠p:=λq n z=>by grind
 refine⟨o,I.un ⟨(by lia),λb o e _ _ _=>⟨o.slots,e⟩,λb u q n _=>?_,(by grind),λb xs q=>?_,λb o u q=>?_,λb j q=>⟨#[],?_⟩⟩ λb u q=>?_⟩;·rw[aD λz=>by ext]; symm
 ·rw[aD (f q nofun)]; symm
 ·rw[aD (f q nofun)]; symm
 ·rw[aD (f q nofun)]; symm
 ·have st:∀{a:M1} {u:HO},bI X.prog X.w H s.heap a u->bI X.prog X.w (upd H p (.jo o (.lst xs))) s.heap a u:=λx=>x.stay (by simp) (λb q=>by rw[aD (f q nofun)]; symm) λb i q=>by rw[aD (f q nofun)]; symm
  by_cases c:b=p
  ·subst c;rw[aq] at q;cases q;exact⟨e,st g⟩
  ·rw[aD c] at q;exact st (I.hok b u q)
noncomputable def Y8 (c:TE):TE:=fun σ H R=>c σ H λv b=>∃p a,v=.ref p/\b p=some (.lst a)/\∀o,R v (upd b p (.jo o (.lst a)))
theorem Y9 (h:PE X e b):PE X e (Y8 b):=by intro a s σ H Q I q;refine aQ (h a s σ H _ I q) λv l g=>?_;obtain⟨x,j,c,r,p,m,i,d,k⟩:=g;obtain⟨o,f⟩:=c.freeze d;exact⟨x,_,f,r,k o⟩
end L2
namespace fX
open PySem PySem.Spec PyProof.Rows L2 kg TB WD
section
variable {P:zAA}{w:zAE}{K:zzA}{mg:Str->Option Value}{base:Heap}{t:Ad}
theorem Ve (h:Gv d σ H (.str ⟨#[c]⟩))(g:∀H',ah H H'->Gv f σ H' (.str ls)):Gv (cT (λx y H Q=>∃i j,x=.str i/\y=.str j/\Q (.bl (!(Builtin.Str.occurrences j i 0 j.length 1).isEmpty)) H) d f) σ H (.bl (decide (c∈ls.cps.toList))):= λR r=>h _ λm b=>g m b _ λl k=>⟨_,_,rfl,rfl,by have e:=StrLaws.found_one ls c;first | (rw[e]; exact r l (b.trans k)) ⟩
theorem xN (m:Gv c σ H (.ref a))(l:∀H',ah H H'->Gv d σ H' (.int f))(e:H a=some (.dK kvs))(i:dF kvs (.inl f)=some v):Gv (Dy c d) σ H v:= λR r=>m _ λj b=>l j b _ λh g=>⟨a,v,rfl,(by have:=nu.k (k:=.inl f) ((b.trans g) _ _ e); rw[i] at this; symm),r h (b.trans g)⟩
noncomputable def IL (x ls:Str)(ps:fM)(ns:List Int):fM:=(ns.filter λk=>decide (x.cps.getD k.toNat 0∈ls.cps.toList)).map λk=>(k,cK ps k)
theorem Vf (a:j4 x.length ts l r ps)(d:ns.Perm (ps.map (·.1)))(i:ns.Pairwise (·<=·)):FU x ts l r ls (IL x ls ps ns):=by
 have h:=d.symm.nodup a.nd;have s:ns.Pairwise (· < ·):=(List.pairwise_and_iff.mpr ⟨i,h⟩).imp (by lia);refine⟨?_,λp g=>?_,λf k b o=>?_⟩
 ·unfold IL;grind
 ·obtain⟨k,b,rfl⟩:=xL.mp g;obtain⟨j,n⟩:=zAt.mp b;obtain⟨q,m,e⟩:=xL.mp (d.mem_iff.mp j);have:=a.fld q m;exact⟨⟨by ext,by ext,zAi n⟩,a.nn k,λf=>a.is k f (by lia)⟩
 ·have c:=tO (tP ((a.is k f (by have:=b.1; lia)).mpr o));exact⟨(k,cK ps k),xL.mpr ⟨k,zAt.mpr ⟨d.mem_iff.mpr (xL.mpr ⟨_,c,rfl⟩),j2 b.2.2⟩,rfl⟩,rfl⟩
inductive As (K:zzA)(P:zAA)(w:zAE)(CF C:M1)(vs:List V)(H:Hp)(Q:VK)(E_:XK):Prop| mk (p sa:M1) (l r:Int) (ls:Str) (A:FA) (W:WA) (M:Mp) (G:Gs) (L h:Nat) (x:Str) (ts:dM):vs=[.ref p,.int l,.int r,.str ls]->Al K P w CF C M G L H p sa A W x h ts->PyData.strOk ls=true->L<=15900000->(∀q ps H',Go K P w M G H (L+1) G H'->Ch K H' q ps->FU x ts l r ls ps->Q (.ref q) H')->As K P w CF C vs H Q E_
theorem lD:aN ["self","left","right","letters","name","found"] ["self","left","right","letters"] (aE gQ):=cI
theorem qx (T:Txt K mg t):aL P w K mg base bg 1 t.qQ t.jh ["self","left","right","letters"] (As K P w t.aF t.bB):=by
 refine T.oH.fn.ok lD (λvs H Q E h=>?_) (λcdv Ar outer sh H vs Q E hr h=>?_)
 ·obtain⟨p,sa,l,r,u,A,W,M,G,L,h,x,ts,rfl,_⟩:=h;rfl
 obtain⟨p,sa,l,r,u,A,W,M,G,L,h,x,ts,rfl,S,hls,hL,kk⟩:=h;refine⟨_,(aj (bh 4 lD.nd (bw (af (pv 1) (af (pv 2) (af (pv 3) ai))))) (aj (bG (iU (pC K P w hr.j5 (pv 4) (bf K (pv 0)))) (aj (bh 5 lD.nd (Uz K P w hr.j5 (bf K (pv 0)) (bw (af (pv 1) (af (pv 2) ai))) pT ⟨rfl,rfl,rfl,rfl⟩)) (av (ur K P w hr.j5 (bf K (pv 0)) (pv 4) (Y9 (gg ["mark","found","self","letters"] [none,some 5,some 0,some 3] (dD K (aH NW (by rfl) T.qh zDA (af (pv 5) ai))) (λ_ _ _ _ nd=>⟨(bu 0 nd),(sR (a_ BZ (aI lU (bf K (pv 2)) (pv 0) (λ_ _=>rfl)) (pv 3) rfl)),(bw (af (pv 0) (af (Im (iG hr) (pv 1) (pv 0) (λ_ _=>rfl)) ai)))⟩))) rfl))) aW) (av (aK (xG K P w hr.j5 (bf K (pv 0)) (pv 4) (λ_ _=>rfl)))))),?_⟩;refine aP ((au aa λ_ _=>au aa λ_ _=>aA aa) _ λN s2=>⟨(by show 3<=PK; decide),λnm hnm=>?_⟩);have B:ah H (upd N nm (.tup [.int l,.int r,.str u])):=s2.trans (ah.new hnm _);have hnk:NK K (upd N nm (.tup [.int l,.int r,.str u])) (wB l r u) nm:=IG (aG.of aq) hls;generalize upd N nm (.tup [.int l,.int r,.str u])=H3 at *;clear hnm s2 N;have S3:=S.same B;have a:=S3.wo;obtain⟨dx,ob⟩:=a.ob;refine pF a.cl a.n6 rfl ob rfl rfl hnk S3.wd a.ck a.mp (λv H4 s4 hS=>?_) λH4 nx s4 m6=>?_
 ·obtain⟨q,b,rfl,h1,h2⟩:=hS _ _ _ rfl;exact kk q b H4 (S.wd.go (B.trans s4) (zCg _)) h1 h2
 obtain⟨ml,nl,n1,low⟩:=(a.same s4).low;refine aP ((d_ aa (s4 _ _ ob) a.cl a.n4 rfl) _ λH5 s5=>⟨W.ll,rfl,⟨_,_,n1.same s5⟩,(au aa λ_ _=>aA aa) _ λH6 s6=>⟨(by show 2<=PK; decide),λJ hup=>λz hz=>?_⟩⟩);have F:ah H4 (upd (upd H6 J (.tup [.int l,.int r])) z (.dK [])):=s5.trans (s6.trans ((ah.new hup _).trans (ah.new hz _)));have Y_:aG K (upd (upd H6 J (.tup [.int l,.int r])) z (.dK [])) J [.int l,.int r]:=(ah.new hz _).tup g5;have hz7:upd (upd H6 J (.tup [.int l,.int r])) z (.dK []) z=some (.dK []):=aq;generalize upd (upd H6 J (.tup [.int l,.int r])) z (.dK [])=H7 at *;refine⟨ml (dN l r),⟨ml,_,dN l r,J,n1.same F,rfl,pG Y_,rfl⟩,?_⟩;obtain⟨fd,b,hfd,y,f⟩:∃fd b,(ml (dN l r)).getD (.ref z)=.ref fd/\H7 fd=some (.dK (bW b))/\j4 x.length ts l r b:=by cases e2:ml (dN l r) with| none=>exact⟨z,[],rfl,hz7,j4.nil (low.no l r e2)⟩| some v=> obtain⟨d,b,rfl,_,hd,f⟩:=low.at_ l r v e2;exact⟨d,b,rfl,F _ _ hd,f⟩
 rw[hfd];have C:=s4.trans F;have mx:=a.mx;have hpl:b.length<=x.length+1:=lB f.nd λp hp=>⟨by have:=f.fld p hp; lia,(f.fld p hp).2⟩;refine tS a.cl a.n6 rfl ob (by rfl) (by rfl) hnk a.ck a.mp m6 λR q=>?_;refine ((aa (v:=.ref fd) (by rfl)) _ λH8 s8=>⟨fd,bW b,b.map (·.1),rfl,s8 _ _ y,by simp [bW],by grind,λsl j hsl pm pw=>⟨sl,rfl,⟨_,ay.of aq⟩,?_⟩⟩);have s89:ah H8 (upd H8 sl (.lst (j.map V.int))):=ah.new hsl _;have Y:upd H8 sl (.lst (j.map V.int)) sl=some (.lst (j.map V.int)):=aq;generalize upd H8 sl (.lst (j.map V.int))=H9 at *;have D:=s8.trans s89;have hnl:j.length<=x.length+1:=by rw[pm.length_eq,yB]; symm
 have O:∀k∈j,0<=k/\k < x.length/\dF (bW b) (.inl k)=some (.int (cK b k)):=λk hk=>by obtain⟨p,hp,rfl⟩:=xL.mp (pm.mem_iff.mp hk);refine⟨(f.fld p hp).1,(f.fld p hp).2,?_⟩;have h1:=iM b p.1;cases e2:dF (bW b) (.inl p.1) with| none=>exact absurd (show (Sum.inl p.1:Key)∈(bW b).map (·.1) from xL.mpr ⟨(.inl p.1,.int p.2),by unfold bW; ext,rfl⟩) (NT e2)| some v=>ext
 refine o8 (xs:=j.map V.int) (by rw[yB,u4]; lia) (λZ i I H'=>ah H9 H'/\∃s:List (M1 × Int × Int),I=s.map q1/\s.length<=i/\s.map (·.2)=IL x u b (j.take i)/\kQ K H' s) (λZ i I H' q=>⟨q.1.seq (ay.of Y),?_⟩) (λZ hZ=>⟨ah.new hZ _,[],rfl,y6 _,rfl,λq hq=>absurd hq (by simp)⟩) (λZ i I H' v R R0 hZ ⟨sm,s,ey,US,eg,m⟩ g hv k1 k2=>?_) λZ I Ha hZ ⟨sm,s,ey,US,eg,m⟩ g=>?_;·grind
 ·rw[v3] at hv;obtain⟨k,hki,rfl⟩:=wT.mp hv;obtain⟨hk0,hkm,hkv⟩:=O k (by grind);have htk:j.take (i+1)=j.take i++[k]:=by rw[zAm,hki]; rfl
  have s7H:=D.trans sm;refine (bF (Ve (c:=x.cps.getD k.toNat 0) (nV ((a.same (C.trans s7H)).gl aa) (λ_ _=>aa) (small (by lia)) (FD hk0 ‹_›)) λ_ _=>aa)) _ λHb U=>?_;by_cases hc:x.cps.getD k.toNat 0∈u.cps.toList
  ·rw[v6 (j2 hc)];refine tR aa λHc sc=>(xN aa (λ_ _=>aa) ((s7H.trans (U.trans sc)) _ _ y) hkv) _ λHd sd=>⟨(by show 2<=PK; decide),λnt hnt=>?_⟩;have n:=(U.trans (sc.trans sd)).trans (ah.new hnt (.tup [.int k,.int (cK b k)]));have mu:eX (upd Hd nt (.tup [.int k,.int (cK b k)]) Z):=by rw[n _ _ g]; exact True.intro
   refine k1 _ _ (n _ _ g) ⟨(sm.trans n).put hZ _,s++[(nt,k,cK b k)],by rw[ey,v4]; rfl,by simp; symm,?_,λe he=>(Tk.put mu).tup ?_⟩
   ·rw[v4,eg,htk];unfold IL;rw[zCe,v4,List.filter_cons_of_pos (by simpa using hc)];rfl
   ·rcases w8.mp he with z | z;·exact n.tup (m e z)
    ·rw[wP.mp z]; exact g5
  ·rw[xI (by rw[zAx hc]; decide)];refine k2 Hb (U _ _ g) ⟨sm.trans U,s,ey,by lia,?_,m.tk (.same U)⟩;rw[eg,htk];unfold IL;rw[zCe,v4,List.filter_cons_of_neg (by simpa using hc)];simp
 rw[yB,zAd] at eg;refine⟨Z,I,rfl,g,λo=>?_⟩;have s3a:=C.trans (D.trans sm);have mu:eX (Ha Z):=by rw[g]; exact True.intro
 have X:H3 Z=none:=(C.trans D).free hZ;have go:Go K P w M G H3 L G (upd Ha Z (.jo o (.lst I))):=(S3.wd.go s3a (y6 _)).own X (S3.wd.off X) mu;have ch:Ch K (upd Ha Z (.jo o (.lst I))) Z (IL x u b j):=⟨s,⟨o,by rw[aq,ey]⟩,eg,m.tk (.put mu)⟩;refine q _ _ G L go (by rw[u4]; lia) (λl' r' ls' z=>?_) λv' N go2 hS=>?_
 ·obtain⟨rfl,rfl,rfl⟩:=FY z;exact⟨Z,_,rfl,ch,Vf f pm pw⟩
 ·obtain⟨q',ps',rfl,h1,h2⟩:=hS _ _ _ rfl;exact kk q' ps' N (go2.pre B) h1 h2
inductive Au (K:zzA)(P:zAA)(w:zAE)(CF C:M1)(vs:List V)(H:Hp)(Q:VK)(E_:XK):Prop| mk (p sa:M1) (d:Nat) (u n:Int) (ls:Str) (A:FA) (W:WA) (M:Mp) (G:Gs) (L h:Nat) (x:Str) (ts:dM):vs=[.ref p,.int ((d+1:Nat):Int),.int u,.int n,.str ls]->Al K P w CF C M G L H p sa A W x h ts->Num G (d+1) n->d < 10->PyData.strOk ls=true->L+cR G.m d<=15000000->(∀r G' H',Go K P w M G H (L+cR G.m d) G' H'->Is G' (d+1) r (λgs=>∃l rs k,gs=k::rs/\Mem G (d+1) n (l::rs)/\PR x ts ls u l rs k)->Q (.int r) H')->Au K P w CF C vs H Q E_
theorem bY:aN ["self","depth","upper","front","letters","found","left","part","mark","bits","fitting"] ["self","depth","upper","front","letters"] (aE d7):=cI
theorem tV (T:Txt K mg t):aL P w K mg base bg 20 t.mH t.fP ["self","depth","upper","front","letters"] (Au K P w t.aF t.bB):=by
 have o:=qx (P:=P) (w:=w) (base:=base) T;have b:=jM (P:=P) (w:=w) (base:=base) T;have m:=qB (P:=P) (w:=w) (base:=base) T 10;have a:=bx (P:=P) (w:=w) (base:=base) T;refine T.n9.fn.ok bY (λvs H Q E h=>?_) (λcdv Ar outer sh H vs Q E hr h=>?_)
 ·obtain⟨p,sa,d,u,n,ls,A,W,M,G,L,h,x,ts,rfl,_⟩:=h;rfl
 obtain⟨p,sa,d,u,n,ls,A,W,M,G,L,h,x,ts,rfl,S,hn,Za,hls,hL,kk⟩:=h;refine⟨_,(aj (bh 5 bY.nd pT) (aj (cS zAl rfl (qJ K (aI (cO K) (bf K (bf K (pv 0))) (pv 3) (λ_ _=>rfl))) (jd K (n:=2) (aY (bu 6 bY.nd) (aY (bu 7 bY.nd) fm))) (av (cS zAl rfl (dD K (cM T.oH T.eT o hr aM (pv 0) (af (pv 6) (af (pv 2) (af (pv 4) ai))))) (jd K (n:=2) (aY (bu 8 bY.nd) (aY (bu 9 bY.nd) fm))) (aj (bh 10 bY.nd (cM T.iu T.aX b hr aM (bf K (pv 0)) (af (aC cX (pv 1) ao) (af (pv 7) (af (pv 9) ai))))) (av (pB (iG hr) (pv 5) (pv 8) (cM T.fQ T.aX m hr aM (bf K (pv 0)) (af (aC cX (pv 1) ao) (af (nv (iG hr) (pv 5) (pv 8) ao ⟨rfl,rfl,rfl,rfl⟩) (af (pv 10) ai)))) rfl)))))) (av (aK (cM T.bC T.aX a hr aM (bf K (pv 0)) (af (pv 1) (af (aH EX (by rfl) T.qh zDA (af (N7 K zCk PySem.F.slot_dict_items PySem.F.type_dict_items ET (pv 5)) ai)) ai))))))),?_⟩;refine aP λY hfo=>?_;have s01:ah H (upd H Y (.dK [])):=ah.new hfo _;have Zb:upd H Y (.dK []) Y=some (.dK (bW [])):=aq;have Ao:M Y=none:=S.wd.off hfo;generalize upd H Y (.dK [])=H1 at *;refine hold λPu k_1=>?_;obtain⟨tt,qs,hat,eqs,kR,_,hq2⟩:=(S.fo.same s01).at (S.wd.same s01) hn;obtain⟨u6,_,_,_⟩:=S.wd.wf.aZ hn;refine k_1 ?_;have few:=S.wd.wf.few;have xm:=S.xm;have nL:qs.length<=G.m+1:=by have:=u6.len; grind
 have hLL:L+((G.m+1) * (1+(G.m+1) * (2+cB G.m d))+1)<=15000000:=hL;have hone:∀i,i<=G.m+1->i * (1+(G.m+1) * (2+cB G.m d))<=(G.m+1) * (1+(G.m+1) * (2+cB G.m d)):=λi hi=>zA9 _ hi;have R:∀j,j<=G.m+1->j * (2+cB G.m d)<=(G.m+1) * (2+cB G.m d):=λj hj=>zA9 _ hj;refine Bv (K:=K) (hat ((S.wo.same s01).gs aa) λ_ _=>aa) kR (λi σ H'=>i<=qs.length/\∃e6 e7 e8 e9 C G' ks,σ=[some (.ref p),some (.int ((d+1:Nat):Int)),some (.int u),some (.int n),some (.str ls),some (.ref Y),e6,e7,e8,e9,C]/\Go K P w M G H (L+i * (1+(G.m+1) * (2+cB G.m d))) G' H'/\Tk H1 H'/\H' Y=some (.dK (bW ks))/\Dn G' d ks λg B=>∃q∈(qs.take i).map (·.2),Mem G d q.2 B/\PR x ts ls u q.1 B g) (λH2 s2=>⟨zAb _,none,none,none,none,none,G,[],by rfl,S.wd.go (s01.trans s2) (by simp),.same s2,s2 _ _ Zb,nodup_nil,(by simp),λg=>⟨.zero,λB=>⟨λz=>absurd z (cE S.wd.wf),by simp⟩⟩⟩) (λi σ H' z=>by obtain⟨_,_,_,_,_,_,_,_,_,_,tk,_⟩:=z; exact tk.tup kR) (λi v σ H' hv hP=>?_) fun σ H' hP=>?_
 ·refine hold λP0 An=>?_;obtain⟨hi,e6,e7,e8,e9,C,Gi,ks,rfl,go,tk,V,Di⟩:=hP;refine An ?_;rw[v3] at hv;obtain⟨q,hq,rfl⟩:=wT.mp hv;have hil:i < qs.length:=(q0.mp hq).1;have jN:q.2∈aZ G n:=by grind
  have hc1:=hone (i+1) (by lia);rw[zBc] at hc1;have htk:qs.take (i+1)=qs.take i++[q]:=by rw[zAm,hq]; rfl
  refine⟨q.1,_,rfl,tk.tup (hq2 q (j1 hq)),rfl,.int q.2.1,_,rfl,.int q.2.2,_,rfl,rfl,?_⟩;have Si:=S.go go;obtain⟨IF,q3⟩:=Si.wo.ob;refine (bQ aa q3 rfl λH2 s2=>(au aa λ_ _=>au aa λ_ _=>aA aa) _ λH3 s3=>?_);have s13:=s2.trans s3;refine⟨p,sa,q.2.1,u,ls,A,W,M,Gi,_,h,x,ts,rfl,Si.same s13,hls,by lia,λcq cs H4 go4 ch4 U=>?_⟩;obtain⟨es,hes,ees,hest⟩:=ch4;have csl:es.length<=G.m+1:=by have:=U.len; grind
  have hin:∀e∈es,e.2∈cs:=λe he=>by grind
  have O:=go4.pre s13;refine⟨cq,rfl,⟨_,hes.sq⟩,yE (xs:=es.map q1) (λj σ H5=>j<=es.length/\∃e8 e9 C Gj kj,σ=[some (.ref p),some (.int ((d+1:Nat):Int)),some (.int u),some (.int n),some (.str ls),some (.ref Y),some (.int q.2.1),some (.int q.2.2),e8,e9,C]/\Go K P w M G H (L+i * (1+(G.m+1) * (2+cB G.m d))+1+j * (2+cB G.m d)) Gj H5/\Tk H4 H5/\H5 Y=some (.dK (bW kj))/\ Dn Gj d kj λg B=>(∃q∈(qs.take i).map (·.2),Mem G d q.2 B/\PR x ts ls u q.1 B g)\/∃e∈(es.take j).map (·.2),e.1=g/\Mem G d q.2.2 B/\∃f r',B=f::r'/\bit e.2 f) ⟨zAb _,e8,e9,C,Gi,ks,rfl,(go.trans O).le (by simp),.refl,O.kw.keep _ _ V Ao,Di.iff λg B=>by simp⟩ (λj σ H5 _ z=>by obtain⟨_,_,_,_,_,_,_,_,tk5,_⟩:=z; exact (tk5.fl hes).sq) (λj v σ H5 hv hP=>?_) fun σ H5 hP=>?_⟩
  ·refine hold λP_8 Vg=>?_;obtain⟨hj,e8,e9,C,Gj,kj,rfl,s,tkj,J,Z⟩:=hP;refine Vg ?_;rw[v3] at hv;obtain⟨e,he,rfl⟩:=wT.mp hv;have hem:e∈es:=j1 he;have hjl:j < es.length:=(q0.mp he).1;have hc2:=R (j+1) (by lia);rw[zBc] at hc2;have Vh:es.take (j+1)=es.take j++[e]:=by rw[zAm,he]; rfl
   refine hold λacV Zc=>?_;obtain⟨⟨hk0,hkx,_⟩,hb0,_⟩:=U.ok e.2 (hin e hem);refine Zc ?_;refine⟨e.1,_,rfl,tkj.tup (hest e hem),rfl,.int e.2.1,_,rfl,.int e.2.2,_,rfl,rfl,?_⟩;have Sj:=S.go s;obtain⟨XZ,Mj⟩:=Sj.fo.ob;refine aP (bQ (Sj.wo.gs aa) Mj rfl λH6 s6=>(au (v:=.int (d:Int)) (aR (aO aa λ_ _=>az) (by congr 1; simp)) λ_ _=>au aa λ_ _=>aA aa) _ λH7 s7=>?_);have FZ:=s6.trans s7;have nq:=u6.num _ jN;refine⟨sa,d,q.2.2,e.2.2,A,M,Gj,_,rfl,Sj.fo.same FZ,Sj.wd.same FZ,nq.ext s.ex,hb0,by lia,λr G8 H8 go8 IM=>?_⟩;have X:=go8.pre FZ;have S8:=Sj.go X;have Zd:=X.kw.keep _ _ J Ao;obtain⟨dxl,obl⟩:=S8.fo.ob;refine bQ (S8.wo.gs aa) obl rfl λH9 s9=>(au (v:=.int (d:Int)) (aR (aO aa λ_ _=>az) (by congr 1; simp)) λHa sa'=>au (aR (nG aa ((s9.trans sa') _ _ Zd) (λ_ _=>aa) λ_ _=>az) (iM kj e.2.1)) λ_ _=>aA aa) _ λHb sb=>?_;have Vi:=s9.trans sb;have m8:G8.m=G.m:=go8.ex.m.trans s.ex.m;refine⟨sa,d,cK kj e.2.1,r,A,M,G8,_,rfl,Za,S8.fo.same Vi,S8.wd.same Vi,(Z.is _).1.ext go8.ex,IM.1,by rw[m8]; lia,λr2 Gc Hc goc isc=>?_⟩;rw[m8] at goc;have Vj:=X.trans (goc.pre Vi);have hfoc:=Vj.kw.keep _ _ J Ao;have FP:=lB Z.nd Z.fld;rw[s.ex.m] at FP;refine wA aa (λ_ _=>aa) hfoc (by simp [bW]; rw[u4]; lia) λHd sd=>?_;rw[tT];have X0:eX (Hd Y):=by rw[sd _ _ hfoc]; exact True.intro
   have N:=Vj.st sd;refine⟨hjl,_,_,_,Gc,mO kj e.2.1 r2,rfl,(((s.trans N).own hfo Ao X0).le (by rw[zBc j (2+cB G.m d)]; lia)),(tkj.trans N.kw.tk).trans (.put X0),aq,Z.put N.ex (isc.iff λB=>?_) (by rw[s.ex.m]; lia) λg B z=>?_⟩
   ·show Mem G8 d (cK kj e.2.1) B\/Mem G8 d r B↔_;rw[bX go8.ex _ _ _ (Z.is _).1,(Z.is _).2 B,IM.2 B,Vh,v4];unfold kP;rw[bX s.ex _ _ _ nq];constructor
    ·rintro ((D | ⟨e',F,D⟩) | ⟨D,I⟩);·exact .inl D
     ·exact .inr ⟨e',zB2 _ F,D⟩
     ·exact .inr ⟨e.2,by simp,rfl,D,I⟩
    ·rintro (D | ⟨e',F,D,I⟩);·exact .inl (.inl D)
     ·rcases w8.mp F with z | z;·exact .inl (.inr ⟨e',z,D,I⟩)
      ·rw[show e'=e.2 by simpa using z] at I;exact .inr I
   ·rw[Vh,v4];refine or_congr_right ⟨λ⟨e',F,h⟩=>⟨e',zB2 _ F,h⟩,λ⟨e',F,h⟩=>⟨e',(w8.mp F).resolve_right λy=>z ?_,h⟩⟩;rw[<-h.1,show e'=e.2 by simpa using y]
  ·refine hold λacW Ze=>?_;obtain⟨_,e8,e9,C,Gj,kj,rfl,s,tkj,J,Z⟩:=hP;refine Ze ?_;rw[yB] at s Z;rw[zAd,ees] at Z;have hc2:=R es.length ‹_›;refine⟨hil,_,_,e8,e9,C,Gj,kj,rfl,s.le (by rw[zBc i]; lia),tk.trans (O.kw.tk.trans tkj),J,Z.iff λg B=>?_⟩;rw[htk,v4];constructor
   ·rintro (⟨q',hq',D⟩ | ⟨e,he,rfl,D,f,r',rfl,I⟩);·exact⟨q',zB2 _ hq',D⟩
    ·obtain⟨l1,l2,l3⟩:=U.ok e he;exact⟨q.2,by simp,D,f,r',rfl,l1,(l3 f).mp I⟩
   ·rintro⟨q',hq',D,I⟩;rcases w8.mp hq' with z | z;·exact .inl ⟨q',z,D,I⟩
    ·rw[show q'=q.2 by simpa using z] at D I;obtain⟨f,r',rfl,l1,l2⟩:=I;obtain⟨c,hc,hck⟩:=U.all f g l1 l2;exact .inr ⟨c,hc,hck,D,f,r',rfl,((U.ok c hc).2.2 f).mpr (by rw[hck]; exact l2)⟩
 ·obtain⟨_,e6,e7,e8,e9,C,Gi,ks,rfl,go,tk,V,Di⟩:=hP;rw[yB] at go Di;rw[zAd,eqs] at Di;have hc1:=hone qs.length nL;have Si:=S.go go;refine cV (Mb Si.fo Si.wd (Si.wo.gs aa) (λ_ _=>aa) (λ_ _=>aa) V Di (by lia) λr G2 H2 go2 is2=>kk r G2 H2 ((go.trans go2).le (by unfold cR; lia)) (is2.iff λgs=>?_));constructor
  ·rintro⟨f,B,rfl,q,hq,D,I⟩;exact⟨q.1,B,f,rfl,⟨q.1,B,q.2,rfl,hq,D⟩,I⟩
  ·rintro⟨l,B,k,rfl,⟨f,r',pp,e,hm',hr'⟩,I⟩;cases e;exact⟨k,B,rfl,_,hm',hr',I⟩
inductive Av (K:zzA)(P:zAA)(w:zAE)(CF C:M1)(N:Nat)(vs:List V)(H:Hp)(Q:VK)(E_:XK):Prop| mk (p sa:M1) (j e row above:Nat) (n:Int) (ls:Str) (A:FA) (W:WA) (M:Mp) (G:Gs) (L h:Nat) (x:Str) (ts:dM):vs=[.ref p,.int (row:Int),.int (above:Int),.int n,.str ls]->j < N->above+j+1=row->row < h->h<=8->e+row=h+j->Al K P w CF C M G L H p sa A W x h ts->Num G (e+1) n->PyData.strOk ls=true->L+cP G.m (h - row - 1) j<=15000000->(∀r G' H',Go K P w M G H (L+cP G.m (h - row - 1) j) G' H'->Is G' (e+1) r (CA G x ts ls j (e+1) n)->Q (.int r) H')->Av K P w CF C N vs H Q E_
theorem cu:aN ["self","row","above","front","letters","name","found","field","part"] ["self","row","above","front","letters"] (aE dH):=cI
theorem qC (T:Txt K mg t):∀N:Nat,aL P w K mg base bg (N+21) t.kL t.kM ["self","row","above","front","letters"] (Av K P w t.aF t.bB N):=by intro N;induction N with| zero=> refine T.fT.fn.ok cu (λvs H Q E h=>?_) (λcdv Ar outer sh H vs Q E hr h=>?_) <;> obtain⟨p,sa,j,e,o,m,n,I,A,W,M,G,L,h,x,ts,rfl,hj,_⟩:=h <;> exact absurd hj (Nat.not_lt_zero _)| succ N c=>
 have d:=tV (P:=P) (w:=w) (base:=base) T;have a:=bx (P:=P) (w:=w) (base:=base) T;refine T.fT.fn.ok cu (λvs H Q E h=>?_) (λcdv Ar outer sh H vs Q E hr h=>?_)
 ·obtain⟨p,sa,j,e,o,m,n,I,A,W,M,G,L,h,x,ts,rfl,_⟩:=h;rfl
 obtain⟨p,sa,j,e,o,m,n,I,A,W,M,G,L,h,x,ts,rfl,hj,hab,yV,Aw,her,S,hn,hls,hL,kk⟩:=h;generalize hdr:h - o - 1=dr at *;refine⟨_,(aj (bh 5 cu.nd (bw (af (pv 1) (af (pv 3) (af (pv 4) ai))))) (aj (bG (iU (pC K P w hr.j5 (pv 5) (bf K (pv 0)))) (aj (bh 6 cu.nd (bH ai)) (aj (cS zAl rfl (qJ K (aI (cO K) (bf K (bf K (pv 0))) (pv 3) (λ_ _=>rfl))) (jd K (n:=2) (aY (bu 7 cu.nd) (aY (bu 8 cu.nd) fm))) (av (bG (a_ Dp (pv 2) (aC cX (pv 1) ao) rfl) (av (cU (mX K zAo zAq zAr dh (pv 6) (af (bw (af (pv 7) (af (cM T.fT T.eT c hr aM (pv 0) (af (pv 1) (af (aC aU (pv 2) ao) (af (pv 8) (af (pv 4) ai))))) ai))) ai)))) (av (cU (mX K zAo zAq zAr dh (pv 6) (af (bw (af (pv 7) (af (cM T.n9 T.eT d hr aM (pv 0) (af (aC cX (bf K (pv 0)) (pv 1)) (af (pv 7) (af (pv 8) (af (pv 4) ai))))) ai))) ai))))))) (av (ur K P w hr.j5 (bf K (pv 0)) (pv 5) (cM T.bC T.aX a hr aM (bf K (pv 0)) (af (aC cX (bf K (pv 0)) (pv 2)) (af (pv 6) ai))) rfl)))) aW) (av (aK (xG K P w hr.j5 (bf K (pv 0)) (pv 5) (λ_ _=>rfl)))))),?_⟩;have hkey:((e+1:Nat):Int)+(o:Int)=((h+1+j:Nat):Int):=by lia
 refine aP ((au aa λ_ _=>au aa λ_ _=>aA aa) _ λH2 s2=>⟨(by show 3<=PK; decide),λnm hnm=>?_⟩);have s03:ah H (upd H2 nm (.tup [.int (o:Int),.int n,.str I])):=s2.trans (ah.new hnm _);have hnk:NK K (upd H2 nm (.tup [.int (o:Int),.int n,.str I])) (wB o n I) nm:=IG (aG.of aq) hls;generalize upd H2 nm (.tup [.int (o:Int),.int n,.str I])=H3 at *;clear hnm s2 H2;have S3:=S.same s03;have B:=S3.wo;obtain⟨dx,ob⟩:=B.ob;refine pF B.cl B.n7 rfl ob rfl rfl hnk S3.wd B.pk B.mp (λv H4 s4 hS=>?_) λH4 nx s4 m6=>?_
 ·obtain⟨_,_,r,rfl,hpl⟩:=hS _ _ _ rfl;exact kk r G H4 (S.wd.go (s03.trans s4) (by simp)) (hpl j e hkey hn)
 refine aP ⟨(by simp),λC hfl=>?_⟩;have s35:ah H3 (upd H4 C (.lst [])):=s4.trans (ah.new hfl _);have Zf:upd H4 C (.lst []) C=some (.lst []):=aq;have Vk:H3 C=none:=s4.free hfl;have X3:M C=none:=S3.wd.off Vk;generalize upd H4 C (.lst [])=H5 at *;have S5:=S3.same s35;refine hold λPu k_1=>?_;obtain⟨tt,qs,hat,eqs,kR,_,hq2⟩:=S5.fo.at S5.wd hn;obtain⟨u6,_,_,_⟩:=S.wd.wf.aZ hn;have few:=S.wd.wf.few;have nL:qs.length<=G.m+1:=by have:=u6.len; grind
 obtain⟨c1,hc1,X4⟩:∃c1,cP G.m dr j=(G.m+1) * c1+2/\((j=0/\c1=cR G.m dr)\/∃j',j=j'+1/\c1=cP G.m dr j'):=by cases j with| zero=>exact⟨_,rfl,(by simp)⟩| succ j'=>exact⟨_,rfl,(by simp)⟩
 refine k_1 ?_;rw[hc1] at hL kk;have hone:∀i,i<=G.m+1->i * c1<=(G.m+1) * c1:=λi hi=>zA9 _ hi;refine Bv (K:=K) (hat (S5.wo.gs aa) λ_ _=>aa) kR (λi σ H'=>i<=qs.length/\∃e7 e8 G' s,σ=[some (.ref p),some (.int (o:Int)),some (.int (m:Int)),some (.int n),some (.str I),some (.ref nm),some (.ref C),e7,e8]/\Go K P w M G H3 (L+i * c1) G' H'/\Tk H5 H'/\H' C=some (.lst (s.map q1))/\kQ K H' s/\Z2 G' e (λq s=>∃D,Mem G e q.2 D/\Pl x ts I j (q.1::D) (q.1::s)) (qs.take i) s) (λH6 O=>⟨zAb _,none,none,G,[],by rfl,S3.wd.go (s35.trans O) (by simp),.same O,O _ _ Zf,(λq hq=>absurd hq (by simp)),.nil⟩) (λi σ H' z=>by obtain⟨_,_,_,_,_,_,_,tk,_⟩:=z; exact tk.tup kR) (λi v σ H' hv hP=>?_) fun σ H' hP=>?_
 ·obtain⟨hi,e7,e8,Gi,s,rfl,U,tk,F,hgt,hz⟩:=hP;rw[v3] at hv;obtain⟨q,hq,rfl⟩:=wT.mp hv;have hil:i < qs.length:=(q0.mp hq).1;have jN:q.2∈aZ G n:=by grind
  have hc2:=hone (i+1) (by lia);rw[zBc] at hc2;have nq:=u6.num _ jN;have US:s.length=i:=by have:=hz.len; ext
  have fin:∀(r:Int) (Z:Gs) (X:Hp) (J:M1),Go K P w M Gi H' (L+i * c1+c1) Z X->Is Z e r (λs=>∃D,Mem Gi e q.2.2 D/\Pl x ts I j (q.2.1::D) (q.2.1::s))->X J=none-> ∃l xs y,(V.ref C)=.ref l/\[V.ref J]=[y]/\upd X J (.tup [.int q.2.1,.int r]) l=some (.lst xs)/\xs.length < PK/\(λ(σ:L2.St) P9=>i+1<=qs.length/\∃e7 e8 G' s,σ=[some (.ref p),some (.int (o:Int)),some (.int (m:Int)),some (.int n),some (.str I),some (.ref nm),some (.ref C),e7,e8]/\Go K P w M G H3 (L+(i+1) * c1) G' P9/\Tk H5 P9/\P9 C=some (.lst (s.map q1))/\kQ K P9 s/\Z2 G' e (λq s=>∃D,Mem G e q.2 D/\Pl x ts I j (q.1::D) (q.1::s)) (qs.take (i+1)) s) [some (.ref p),some (.int (o:Int)),some (.int (m:Int)),some (.int n),some (.str I),some (.ref nm),some (.ref C),some (.int q.2.1),some (.int q.2.2)] (upd (upd X J (.tup [.int q.2.1,.int r])) l (.lst (xs++[y]))):=λr Z X J go8 IM Y=>by
   have sn:ah X (upd X J (.tup [.int q.2.1,.int r])):=ah.new Y _;have acX:aG K (upd X J (.tup [.int q.2.1,.int r])) J [.int q.2.1,.int r]:=g5;have P_:=go8.st sn;generalize upd X J (.tup [.int q.2.1,.int r])=Hn at *;have Vl:Hn C=some (.lst (s.map q1)):=P_.kw.keep _ _ F X3;have Vm:eX (Hn C):=by rw[Vl]; exact True.intro
   refine⟨C,_,_,rfl,rfl,Vl,by rw[yB,u4]; lia,hil,_,_,Z,s++[(J,q.2.1,r)],rfl,?_,(tk.trans P_.kw.tk).trans (.put Vm),by rw[aq,v4]; rfl,λg hg=>(Tk.put Vm).tup ?_,?_⟩
   ·rw[zBc,<-add_assoc];exact (U.trans P_).own Vk X3 Vm
   ·rcases w8.mp hg with z | z;·exact P_.kw.tk.tup (hgt g z)
    ·rw[wP.mp z];symm
   ·rw[zAm,hq];refine (hz.ext go8.ex).snoc ⟨rfl,IM.iff λgs'=>⟨?_,?_⟩⟩ <;> rintro⟨D,h1,h2⟩;·exact⟨D,(bX U.ex _ _ _ nq).mp h1,h2⟩
    ·exact⟨D,(bX U.ex _ _ _ nq).mpr h1,h2⟩
  refine⟨q.1,_,rfl,tk.tup (hq2 q (j1 hq)),rfl,.int q.2.1,_,rfl,.int q.2.2,_,rfl,rfl,?_⟩;have Si:=S3.go U;obtain⟨IF,q3⟩:=Si.wo.ob;have mi:=U.ex.m;rcases X4 with ⟨rfl,rfl⟩ | ⟨j',rfl,rfl⟩
  ·obtain rfl:e=dr+1:=by grind
   refine fc (b:=false) (di (bF (aO aa λ_ _=>aO aa λ_ _=>az)) (by grind)) (λz=>absurd z (by decide)) λ_ H6 O=>?_;refine jt ((aa (v:=.ref C) (by rfl)) _ λH7 s7=>⟨.inl ⟨rfl,_,ay.of ((O.trans s7) _ _ F)⟩,?_⟩);have u:=O.trans s7;refine tR aa λX s8=>bQ aa ((u.trans s8) _ _ q3) rfl λH9 s9=>(au (v:=.int ((dr+1:Nat):Int)) (aR (aO ((Si.wo.same (u.trans (s8.trans s9))).gh aa) λ_ _=>aa) (by grind)) λ_ _=>au aa λ_ _=>au aa λ_ _=>aA aa) _ λHa sa'=>?_;have Ml:=u.trans (s8.trans (s9.trans sa'));refine⟨p,sa,dr,q.2.1,q.2.2,I,A,W,M,Gi,_,h,x,ts,rfl,Si.same Ml,nq.ext U.ex,by lia,hls,by grind,λr Z Hb gob isb=>⟨(by show 2<=PK; decide),λJ Y=>?_⟩⟩;rw[mi] at gob;refine fin r Z Hb J (gob.pre Ml) (isb.iff λgs'=>⟨?_,?_⟩) Y
   ·rintro⟨l,rs,k,e1,h1,h2⟩;exact⟨_,h1,II.mpr ⟨l,rs,k,e1,rfl,h2⟩⟩
   ·rintro⟨D,h1,h2⟩;obtain⟨l,rs,k,e1,e2,h3⟩:=II.mp h2;exact⟨l,rs,k,e1,by rw[<-e2]; exact h1,h3⟩
  ·obtain⟨e',rfl⟩:∃e',e=e'+1:=⟨e - 1,by lia⟩;refine fc (b:=true) (di (bF (aO aa λ_ _=>aO aa λ_ _=>az)) (j2 (by lia))) (λ_ H6 O=>?_) λz=>absurd z (by decide);refine jt ((aa (v:=.ref C) (by rfl)) _ λH7 s7=>⟨.inl ⟨rfl,_,ay.of ((O.trans s7) _ _ F)⟩,?_⟩);refine tR aa λX s8=>bQ aa ((O.trans (s7.trans s8)) _ _ q3) rfl λH9 s9=>(au aa λ_ _=>au (v:=.int ((m+1:Nat):Int)) (aR (aO aa λ_ _=>az) (by congr 1)) λ_ _=>au aa λ_ _=>aA aa) _ λHa sa'=>?_;have Ml:=O.trans (s7.trans (s8.trans (s9.trans sa')));refine⟨p,sa,j',e',o,m+1,q.2.2,I,A,W,M,Gi,_,h,x,ts,rfl,by lia,by lia,yV,Aw,by lia,Si.same Ml,nq.ext U.ex,hls,by rw[hdr,mi]; lia,λr Z Hb gob isb=>⟨(by show 2<=PK; decide),λJ Y=>?_⟩⟩;rw[hdr,mi] at gob;refine fin r Z Hb J (gob.pre Ml) (isb.iff λgs'=>⟨?_,?_⟩) Y <;> rintro⟨D,h1,h2⟩;·exact⟨D,h1,IJ.mpr h2⟩
   ·exact⟨D,h1,IJ.mp h2⟩
 ·obtain⟨_,e7,e8,Gi,s,rfl,U,tk,F,hgt,hz⟩:=hP;rw[yB] at U hz;rw[zAd] at hz;have hc2:=hone qs.length nL;have Si:=S3.go U;obtain⟨XZ,Mj⟩:=Si.fo.ob;refine tS B.cl B.n7 rfl ob rfl rfl hnk B.pk B.mp m6 λR q=>?_;refine bQ (Si.wo.gs aa) Mj rfl λH6 O=>(au (v:=.int ((e+1:Nat):Int)) (aR (aO ((Si.wo.same O).gh aa) λ_ _=>aa) (by congr 1; lia)) λ_ _=>aA aa) _ λH7 s7=>?_;have u:=O.trans s7;refine⟨sa,C,e,A,M,Gi,_,s,rfl,Si.fo.same u,Si.wd.same u,ay.of (u _ _ F),hgt.tk (.same u),hz.u6 (by rw[eqs]; exact u6.rise) (by rw[eqs,U.ex.m]; exact u6.fld),by lia,λr Z X go8 IM=>?_⟩;have go3:=U.trans (go8.pre u);have CB:Is Z (e+1) r (CA G x ts I j (e+1) n):=IM.iff λD=>(hz.PY D).trans (by
   rw[eqs];constructor
   ·rintro⟨q,hq,rr,rfl,fs',h3,h4⟩;exact⟨q.1::fs',⟨q.1,fs',q.2,rfl,hq,h3⟩,h4⟩
   ·rintro⟨fs',⟨f,rr,pp,rfl,hm',hr'⟩,h4⟩;obtain⟨r2,rfl⟩:=RU h4;exact⟨_,hm',r2,rfl,rr,hr',h4⟩);refine q _ _ _ _ go3 (by rw[u4]; lia) (λacY n' ls' z=>?_) λv' H2 go2 hS=>?_
  ·obtain⟨rfl,rfl,rfl⟩:=FY z;exact⟨hn.nonneg,wS (S.wd.wf.aZ hn).2.2.2 go3.ex.len,r,rfl,U9 go3.wd.wf go3.ex hkey hn CB⟩
  ·obtain⟨_,_,r',rfl,hpl⟩:=hS _ _ _ rfl;exact kk r' Z H2 ((go2.pre s03).le (by lia)) ((hpl j e hkey (hn.ext go2.ex)).iff λs=>IK go2.ex hn s)
inductive CC (K:zzA)(P:zAA)(w:zAE)(CF C:M1)(vs:List V)(H:Hp)(Q:VK)(E_:XK):Prop| mk (p sa:M1) (row:Nat) (n:Int) (ls:Str) (A:FA) (W:WA) (M:Mp) (G:Gs) (L h:Nat) (x:Str) (ts:dM):vs=[.ref p,.int (row:Int),.int n,.str ls]->row < h+1->h+1<=8->Al K P w CF C M G L H p sa A W x (h+1) ts->Num G (P5 h row) n->PyData.strOk ls=true->L+P4 G.m (h+1) row<=15000000->(∀r G' H',Go K P w M G H (L+P4 G.m (h+1) row) G' H'->Is G' (h+1) r (P6 G x ts ls h row n)->Q (.int r) H')->CC K P w CF C vs H Q E_
theorem Ax:aN ["self","row","front","letters"] ["self","row","front","letters"] (aE h_):=cI
theorem Ay (T:Txt K mg t):aL P w K mg base bg 30 t.tu t.jW ["self","row","front","letters"] (CC K P w t.aF t.bB):=by
 have g:=qx (P:=P) (w:=w) (base:=base) T;have f:=qC (P:=P) (w:=w) (base:=base) T 8;have a:=jM (P:=P) (w:=w) (base:=base) T;have d:=bx (P:=P) (w:=w) (base:=base) T;refine T.v5.fn.ok Ax (λvs H Q E h=>?_) (λcdv Ar outer sh H vs Q E hr h=>?_)
 ·obtain⟨p,V,j,n,ls,A,W,M,G,L,h,x,ts,rfl,_⟩:=h;rfl
 obtain⟨p,V,j,n,ls,A,W,M,G,L,h,x,ts,rfl,yV,Aw,S,hn,J,hL,kk⟩:=h;refine⟨_,(aj (bG (a_ dQ (pv 1) ao rfl) (av (aK (cM T.bC T.aX d hr aM (bf K (pv 0)) (af (bf K (pv 0)) (af (gg ["mark","bits","self","front"] [none,none,some 0,some 2] (dD K (cM T.oH T.eT g hr aM (pv 0) (af (eu rfl T.gn T.gp) (af (eu rfl T.gn T.gp) (af (pv 3) ai))))) (λ_ _ _ _ nd=>⟨(jd K (n:=2) (aY (bu 0 nd) (aY (bu 1 nd) fm))),bT,(bw (af (pv 0) (af (cM T.iu T.aX a hr aM (bf K (pv 2)) (af (aC cX (bf K (pv 2)) ao) (af (pv 3) (af (pv 1) ai)))) ai)))⟩)) ai))))) aW) (av (aK (cM T.fT T.eT f hr aM (pv 0) (af (pv 1) (af ao (af (pv 2) (af (pv 3) ai)))))))),?_⟩;obtain⟨dx,ob⟩:=S.wo.ob;refine eG (b:=decide (j=0)) (di (bF (dz aa (λ_ _=>az) (by rfl))) DF) (λe H1 y=>?_) λe H1 y=>?_
 ·obtain rfl:j=0:=zAi e;obtain⟨XY,Mi⟩:=S.fo.ob;have hL':=hL;refine cV (bQ ((S.wo.same y).gs aa) (y _ _ Mi) rfl λF s2=>qX ((S.wo.same (y.trans s2)).gh aa) λH3 s3=>IC ?_);have m:=y.trans (s2.trans s3);refine bQ aa (m _ _ ob) rfl λH4 s4=>(au az λ_ _=>au az λ_ _=>aA aa) _ λH5 s5=>?_;have U:=m.trans (s4.trans s5);refine⟨p,V,-1,-1,ls,A,W,M,G,L,h+1,x,ts,rfl,S.same U,J,by lia,λcq cs H6 O ch6 l=>?_⟩;obtain⟨es,I,B,X⟩:=ch6;have o:=O.pre U;have xm:=S.xm;have few:=S.wd.wf.few;have csl:es.length<=G.m+1:=by have:=l.len; grind
  have hin:∀e∈es,e.2∈cs:=λe he=>by grind
  have S6:=S.go o;have N:=hn;refine⟨cq,rfl,⟨_,I.sq⟩,L1 (S:=λe=>kP G h n e.2) (e:=h) (c:=2) (by lia) I X O.wd (λ_ _=>rfl) (λi e Y H' R he s k=>?_) λZ gs Y H' hZ s u7 hg z=>?_⟩
  ·have Si:=S6.go s;obtain⟨XZ,Mj⟩:=Si.fo.ob;have hil:=(q0.mp he).1;refine bQ (Si.wo.gs aa) Mj rfl λHc sc=>(au (v:=.int (h:Int)) (aR (aO ((Si.wo.same sc).gh aa) λ_ _=>az) (by simp)) λHd sd=>au aa λ_ _=>aA aa) _ λHe se=>?_;have C:=sc.trans se;exact⟨V,h,n,e.2.2,A,M,Y,_,rfl,Si.fo.same C,Si.wd.same C,N.ext s.ex,(l.ok e.2 (by grind)).2.1,by lia,λr G2 F u D=>k r G2 F (u.pre C) (D.iff λfs=>(qW s.ex N fs).symm)⟩
  ·refine⟨V,Z,h,A,M,Y,_,gs,rfl,(S6.go s).fo,s.wd,ay.of u7,hg,z.u6 (by rw[B]; exact l.rise) (λq hq=>?_),by lia,λr G2 F u D=>kk r G2 F ((o.trans (s.trans u)).le (by show _<=L+(2+(G.m+1) * 2); lia)) (D.iff λfs=>(z.PY fs).trans ?_)⟩
   ·rw[B] at hq;have h1:=(l.ok q hq).1;have:=h1.1;have:=h1.2.1;rw[s.ex.m];lia
   ·rw[B];constructor
    ·rintro⟨e,he,rr,rfl,h3,f0,g0,rfl,h4⟩;obtain⟨l1,l2,l3⟩:=l.ok e he;exact⟨_,e.1,rfl,h3,f0,g0,rfl,l1,(l3 f0).mp h4⟩
    ·rintro⟨rs,k,rfl,h3,l',rest,rfl,h4,h5⟩;obtain⟨c,hc,rfl⟩:=l.all l' k h4 h5;exact⟨c,hc,_,rfl,h3,l',rest,rfl,((l.ok c hc).2.2 l').mpr h5⟩
 ·obtain⟨j,rfl⟩:∃k,j=k+1:=⟨j - 1,by have:=of_decide_eq_false e; lia⟩;refine cV (bQ aa (y _ _ ob) rfl λF s2=>(au aa λ_ _=>au az λ_ _=>au aa λ_ _=>aA aa) _ λH3 s3=>?_);have m:=y.trans (s2.trans s3);exact⟨p,V,j,h,j+1,0,n,ls,A,W,M,G,L,h+1,x,ts,rfl,by lia,by simp,by symm,Aw,by lia,S.same m,hn,J,hL,λr Y H' go' is'=>kk r Y H' (go'.pre m) is'⟩
end
end fX
namespace kg
open PySem
theorem IP (b:0<=x)(c:0<=y):Builtin.bitAnd x y≠0↔∃f,bit x f/\bit y f:=by
 obtain⟨e,g⟩:=xM b c;constructor
 ·intro d;have:(Builtin.bitAnd x y).toNat≠0:=by lia
  obtain⟨i,j⟩:=Nat.exists_testBit_of_ne_zero this;have h:bit _ (i - 1):=⟨e,by lia,by ext⟩;grind
 ·rintro⟨f,a⟩;exact tP ((g f).mpr a)
theorem F0:∀(d:List Int) (lo:Int),-1<=lo->d.Pairwise (· < ·)->(∀f∈d,lo<=f)->∃q:Nat,(d.map dJ).sum=((2 ^ (lo+1).toNat * q:Nat):Int)/\∀g,bit ((d.map dJ).sum) g↔g∈d
 | [],lo,_,_,_=>⟨0,by rfl,λg=>⟨λz=>absurd rfl (tP z),by simp⟩⟩| f::d,lo,n,i,r=>by
  obtain⟨u,t⟩:=List.pairwise_cons.mp i;have o:=r f zAc;obtain⟨q,e,v⟩:=F0 d (f+1) (by lia) t λg s=>by have:=u g s; symm
  have p:(f+1+1).toNat=(f+1).toNat+1:=by lia
  rw[p] at e;generalize j:(f+1).toNat=k at *;have h:((f::d).map dJ).sum=((2 ^ (k+1) * q+2 ^ k:Nat):Int):=by rw[zAw,List.sum_cons,e,Cw,j];push_cast;lia
  have m:(lo+1).toNat<=k:=by lia
  refine⟨2 ^ (k - (lo+1).toNat) * (2 * q+1),?_,λg=>?_⟩
  ·rw[h];congr 1;rw[<-Nat.mul_assoc,<-Nat.pow_add,show (lo+1).toNat+(k - (lo+1).toNat)=k by ext,Nat.pow_succ,Nat.mul_add,Nat.mul_one,Nat.mul_assoc]
  ·rw[u1,<-v g,h,e];unfold bit;rw[zA3,zA3];have l:2 ^ k < 2 ^ (k+1):=Nat.pow_lt_pow_right (by decide) (by simp);rw[Nat.testBit_two_pow_mul_add _ l,Nat.testBit_two_pow_mul,Nat.testBit_two_pow];by_cases c:(g+1).toNat < k+1
   ·rw[v6 c];constructor
    ·rintro⟨_,b,a⟩;exact .inl (by have:=zAi a; grind)
    ·rintro (b | ⟨_,b,a⟩);·exact⟨by lia,by lia,j2 (by rw[b]; ext)⟩
     ·rw[zAx (by grind)] at a;exact absurd a (by simp)
   ·rw[xI c];constructor
    ·rintro⟨_,b,a⟩;exact .inr ⟨by lia,b,by rw[j2 (by grind),zB9]; exact a⟩
    ·rintro (b | ⟨_,b,a⟩);·exfalso; rw[b] at c; ext
     ·rw[j2 (by ext),zB9] at a;exact⟨by lia,b,a⟩
end kg
namespace WD
open PySem PySem.Spec PyProof.Rows L2 kg TB
section
variable {P:zAA}{w:zAE}{K:zzA}{H H':Hp}{M:Mp}{G G':Gs}{L:Nat}{a p:M1}{ts:dM}{d:Nat}{n r:Int}
noncomputable def cC (m:Nat):Nat->Nat| 0=>1| d+1=>(m+1) * cC m d+2
noncomputable def wF (G:Gs)(ts:dM)(d:Nat)(n:Int):List Int->Prop:=λb=>∃l,Mem G (d+1) n (b++[l])/\[l,b.getLastD 0,-1,-1]∈ts
theorem By (X:Ext G G')(h:Num G (d+1) n)(b:List Int):wF G' ts d n b↔wF G ts d n b:=by unfold wF;simp only [bX X _ _ _ h]
theorem Vn (b:WF G')(X:Ext G G')(h:Num G (d+1) n)(q:Is G' d r (wF G ts d n)):Mg ts G' n r:=by
 intro e i;by_cases g:n=0
 ·subst g;obtain rfl:=is_none b q λf ⟨l,c,_⟩=>cE X.w c;exact⟨.zero,λf=>⟨λz=>absurd z (cE b),λ⟨l,c,_⟩=>absurd c (cE b)⟩⟩
 ·obtain rfl:=(h.ext X).depth i g;exact q.iff λf=>(By X h f).symm
theorem xN (o:Gv c σ H (.ref a))(m:∀H',ah H H'->Gv g σ H' (.int f))(e:H a=some (.dK kvs))(j:dF kvs (.inl f)=some v):Gv (Dy c g) σ H v:= λR r=>o _ λl b=>m l b _ λi h=>⟨a,v,rfl,(by have:=nu.k (k:=.inl f) ((b.trans h) _ _ e); rw[j] at this; symm),r i (b.trans h)⟩
theorem RW (i:Gv g σ H (.int f))(m:∀H',ah H H'->Gv h σ H' (.ref a))(e:H a=some (.dK kvs)):Gv (Bc g h) σ H (.bl (!(dF kvs (.inl f)).isSome)):= λR r=>i _ λl b=>m l b _ λj c=>⟨a,_,rfl,nu.k (k:=.inl f) ((b.trans c) _ _ e),r j (b.trans c)⟩
noncomputable def Qa (K:zzA)(P:zAA)(w:zAE)(M:Mp)(G:Gs)(H:Hp)(p a:M1)(i:Nat)(S:Gs->Int->V->Prop)(n:Int)(R:VK):L2.St->Hp->Prop:=λc H'=>∃G' f,Go K P w M G H f G' H'/\c[0]?=some (some (.ref p))/\c[i]?=some (some (.int n))/\(∃b v,H' a=some (.dK b)/\dF b (.inl n)=some v)/\∀v e,ah H' e->S G' n v->R v e
variable {i:Nat}{f:Str}{tb:TS}{te:TE}{D:Ends}{σ:L2.St}{C dx:M1}{fs:List (Str × V)}{S:Gs->Int->V->Prop}
theorem Oz (c:gK K C)(h:aV K C f)(l:fs.lookup f=some (.ref a))(k:H p=some (.ins C dx fs))(y:σ[0]?=some (some (.ref p)))(z:σ[i]?=some (some (.int n)))(W:Wd K P w M G L H)(A:M a=some (.dk S))(O:M p=none)(T:∀v b,ah H b->S G n v->D.rt v b) (I:∀b nx,ah H b->(∀q H',Qa K P w M G H p a i S n D.rt q H'->nx q H')->tb { D with nx:=nx } σ b) : eY (AW (tB (Bc (cF i) (kh K (cF 0) f))) tb xx) (D7 (Dy (kh K (cF 0) f) (cF i))) D σ H:=by
 obtain⟨hS,o,x,k2,U⟩:=W.kd _ _ A;refine eG (dY (RW (aa z) (λZ F=>d_ (aa y) (F _ _ k) c h l) x)) (λe b g=>?_) λe b g=>?_
 ·refine I b _ g λq H' E=>?_;obtain⟨G',Y,t,X,Q,⟨kv,v,B,u⟩,N⟩:=E;obtain⟨_,J,q1,q2,R⟩:=t.wd.kd _ _ A;rw[B] at q1;cases q1;exact bU (xN (d_ (aa X) (t.kw.keep _ _ k O) c h l) (λ_ _=>aa Q) B u) λs m=>N v s m (R n v u)
 ·cases j:dF o _ with| none=>rw[j] at e; cases e| some v=>exact bU (xN (d_ (aa y) (g _ _ k) c h l) (λ_ _=>aa z) (g _ _ x) j) λs m=>T v s (g.trans m) (U n v j)
theorem F1 {e:Hp}{k:Gs}{R:VK}{nx:L2.St->Hp->Prop}(c:gK K C)(W:aV K C f)(l:fs.lookup f=some (.ref a))(T:e p=some (.ins C dx fs))(B:σ[0]?=some (some (.ref p)))(F:σ[i]?=some (some (.int n)))(t:M a=some (.dk S))(Y:M p=none)(J:∀x H',Qa K P w M k e p a i S n R x H'->nx x H') (hv:∀Q:VK,(∀v s G' h,Go K P w M k e h G' s->h < PK->S G' n v->(∀b I,Go K P w M k e (h+1) G' I->S G' n b->R b I)->Q v s)->te σ H Q) : Pp (kh K (cF 0) f) (cF i) te { D with nx:=nx } σ H:=by
 refine hv _ λv s G' h j hl hs O=>?_;obtain⟨U,m,y,k2,X⟩:=j.wd.kd _ _ t;refine wA (d_ (aa B) (j.kw.keep _ _ T Y) c W l) (λ_ _=>aa F) y (by lia) λE A=>J σ _ ⟨G',h+1,?_,B,F,⟨_,v,aq,by rw[yN,v6 rfl]⟩,?_⟩;all_goals
  have g:=j.st A;have mu:eX (E a):=by rw[A _ _ y]; exact True.intro
  have W4:Wd K P w M G' _ (upd E a (.dK (putK m _ v))):=g.wd.put t (zCg _) ⟨U,_,aq,zAv (rD _ _ _) (by ext),λu b z=>by
   rw[yN] at z;by_cases q:(Sum.inl u:Key)=.inl n
   ·rw[v6 q] at z;injection q with q;rw[q,<-zAy z]; symm
   ·rw[xI q] at z;exact X u b z⟩;have o:Go K P w M k e _ G' _:=⟨W4,j.ex,g.kw.trans (.put t mu)⟩
 ·symm
 ·exact λb N s5 Z=>O b N (o.st s5) Z
theorem Vo (W:WF G)(R:Num G 1 n)(h:rZ ts ps)(y:∀q,keep q=decide (Builtin.bitAnd q.2 (cK ps q.1)≠0)):Is G 0 (((aZ G n).filter keep).map λq=>dJ q.1).sum (wF G ts 0 n)/\(∀k∈((aZ G n).filter keep).map (λq=>dJ q.1),0<=k)/\(((aZ G n).filter keep).map λq=>dJ q.1).sum < 2 ^ 17:=by
 obtain⟨g,_,_,_⟩:=W.aZ R;have Q:=W.few;have j:(((aZ G n).filter keep).map _).Pairwise _:=zAh.mpr (zC0 _ g.rise);have z:∀f:Int,f∈((aZ G n).filter keep).map (λq=>q.1)->-1<=f/\f < G.m:=λf x=>by obtain⟨q,F,rfl⟩:=xL.mp x;exact g.fld q (by grind)
 obtain⟨_,_,c⟩:=F0 _ (-1) (by decide) j (by grind);have s:(((aZ G n).filter keep).map λq=>q.1).map dJ=((aZ G n).filter keep).map λq=>dJ q.1:=by simp
 rw[s] at c;have B:∀k∈((aZ G n).filter keep).map (λq=>dJ q.1),0<=k:=λk y=>by obtain⟨q,_,rfl⟩:=xL.mp y;exact zC3 (lN _)
 have u:0<=(((aZ G n).filter keep).map λq=>dJ q.1).sum:=by ext
 have m:=n_ u λf x=>(z f ((c f).mp x)).2;have I:(2:Int) ^ (G.m+1)<=2 ^ 17:=by have:(2:Nat) ^ (G.m+1)<=2 ^ 17:=zBz (by decide) (by ext);exact_mod_cast this
 refine⟨⟨⟨u,m⟩,λfs=>⟨?_,?_⟩⟩,B,by grind⟩
 ·rintro⟨f,rfl,x⟩;obtain⟨q,F,rfl⟩:=xL.mp ((c f).mp x);obtain⟨t,e⟩:=zAt.mp F;rw[y] at e;obtain⟨l,N,E⟩:=(IP (g.num q t).nonneg (h.nn _)).mp (zAi e);exact⟨l,⟨q.1,[l],q.2,rfl,t,l,rfl,N⟩,(h.is _ l).mp E⟩
 ·rintro⟨l,⟨f,U,J,e,o,O,rfl,T⟩,E⟩;cases fs with| nil=>simp at e| cons f0 v=>
   simp at e;obtain⟨rfl,A⟩:=e;obtain⟨rfl,rfl⟩:v=[]/\l=O:=by cases v with| nil=>simp at A; exact⟨rfl,A⟩| cons a b=>simp at A
   exact⟨f0,rfl,(c f0).mpr (xL.mpr ⟨(f0,J),zAt.mpr ⟨o,by rw[y]; exact j2 ((IP (g.num _ o).nonneg (h.nn _)).mpr ⟨l,T,(h.is f0 l).mpr E⟩)⟩,rfl⟩)⟩
theorem RX (fs:List Int):(∃q∈aZ G n,∃r,fs=q.1::r/\wF G ts d q.2 r)↔wF G ts (d+1) n fs:=by
 constructor
 ·rintro⟨q,m,r,rfl,l,c,j⟩;have h:=tN _ _ _ c;refine⟨l,⟨q.1,r++[l],q.2,rfl,m,c⟩,?_⟩;cases r with| nil=>simp at h| cons a b=>simpa using j
 ·rintro⟨l,⟨f,s,o,e,k,c⟩,j⟩;have h:=tN _ _ _ c;cases fs with| nil=>simp at e; rw[e.2] at h; simp at h| cons f0 g=> simp at e;obtain⟨rfl,rfl⟩:=e;refine⟨(f0,o),k,g,rfl,l,c,?_⟩;cases g with| nil=>simp at h| cons a b=>simpa using j
end
end WD
namespace fX
open PySem PySem.Spec PyProof.Rows L2 kg TB WD
section
variable {P:zAA}{w:zAE}{K:zzA}{mg:Str->Option Value}{base:Heap}{t:Ad}
inductive CD (K:zzA)(P:zAA)(w:zAE)(CF C:M1)(N:Nat)(vs:List V)(H:Hp)(Q:VK)(E_:XK):Prop| mk (p sa:M1) (d:Nat) (n:Int) (A:FA) (W:WA) (M:Mp) (G:Gs) (L h:Nat) (x:Str) (ts:dM):vs=[.ref p,.int ((d+1:Nat):Int),.int n]->d < N->Al K P w CF C M G L H p sa A W x h ts->Num G (d+1) n->L+cC G.m d<=15000000->(∀r G' H',Go K P w M G H (L+cC G.m d) G' H'->Is G' d r (wF G ts d n)->Q (.int r) H')->CD K P w CF C N vs H Q E_
theorem mQ:aN ["self","depth","front","branches"] ["self","depth","front"] (aE ia):=cI
theorem Az (T:Txt K mg t):∀N:Nat,aL P w K mg base bg (N+2) t.tw t.jX ["self","depth","front"] (CD K P w t.aF t.bB N):=by have o:=qZ (P:=P) (w:=w) (base:=base) T;have a:=bx (P:=P) (w:=w) (base:=base) T;intro N;induction N with| zero=> refine T.mL.fn.ok mQ (λvs H Q E h=>?_) (λcdv Ar Y sh H vs Q E B h=>?_) <;> obtain⟨p,sa,d,n,A,W,M,G,L,h,x,ts,rfl,hj,_⟩:=h <;> exact absurd hj (Nat.not_lt_zero _)| succ N f=>
 refine T.mL.fn.ok mQ (λvs H Q E h=>?_) (λcdv Ar Y sh H vs Q E B h=>?_)
 ·obtain⟨p,sa,d,n,A,W,M,G,L,h,x,ts,rfl,_⟩:=h;rfl
 obtain⟨p,sa,d,n,A,W,M,G,L,h,x,ts,rfl,hdN,S,U,hL,kk⟩:=h;refine⟨_,(aj (bG (iU (Lu (iG B) (pv 2) (bf K (pv 0)))) (aj (bh 3 mQ.nd (aI (cO K) (bf K (bf K (pv 0))) (pv 2) (λ_ _=>rfl))) (av (bG (a_ dQ (pv 1) ao rfl) (av (pB (iG B) (bf K (pv 0)) (pv 2) (aH (Y7 K) (by rfl) T.WR boot_sum (af (gg ["field","lefts","self"] [none,none,some 0] (qJ K (pv 3)) (λ_ _ _ _ nd=>⟨(jd K (n:=2) (aY (bu 0 nd) (aY (bu 1 nd) fm))),(sR (vO K (aC vC (pv 1) (nv (iG B) (bf K (pv 2)) (pv 0) ao ⟨rfl,rfl,rfl,rfl⟩)) (λ_=>rfl))),(cD T.tG o B aM (af (pv 0) ai))⟩)) ai)) rfl)) (av (pB (iG B) (bf K (pv 0)) (pv 2) (cM T.bC T.aX a B aM (bf K (pv 0)) (af (aC cX (pv 1) ao) (af (gg ["field","part","self","depth"] [none,none,some 0,some 1] (qJ K (pv 3)) (λ_ _ _ _ nd=>⟨(jd K (n:=2) (aY (bu 0 nd) (aY (bu 1 nd) fm))),bT,(bw (af (pv 0) (af (cM T.mL T.eT f B aM (pv 2) (af (aC cX (pv 3) ao) (af (pv 1) ai))) ai)))⟩)) ai))) rfl))))) aW) (av (aK (Im (iG B) (bf K (pv 0)) (pv 2) (λ_ _=>rfl))))),?_⟩;obtain⟨dx,ob⟩:=S.wo.ob;obtain⟨s,_,_,hnl⟩:=S.wd.wf.aZ U;have few:=S.wd.wf.few;refine Oz S.wo.cl S.wo.n8 rfl ob rfl rfl S.wd S.wo.dk S.wo.mp (λv H1 s1 ⟨_,_,r,hr',hS⟩=>?_) λH1 nx s1 m6=>?_
 ·rw[hr'];exact kk r G H1 (S.wd.go s1 (by simp)) (hS d U)
 have fin:∀(r:Int) (l:Gs) (I:Nat) (u:Hp) (Q':VK),Go K P w M G H I l u->I+1<=L+cC G.m d->Is l d r (wF G ts d n)->(∀v H1 l I,Go K P w M G H I l H1->I < PK->wC ts l n v->(∀v' D,Go K P w M G H (I+1) l D->wC ts l n v'->Q v' D)->Q' v H1)->Q' (.int r) u:=λr l I u Q' j hl is k=>by refine k _ u l I j (by rw[u4]; lia) ⟨U.nonneg,wS hnl j.ex.len,r,rfl,Vn j.wd.wf j.ex U is⟩ λv' D g hh=>?_;obtain⟨_,_,r',e',hS⟩:=hh;rw[e'];exact kk r' l D (g.le hl) ((hS d (U.ext g.ex)).iff λgs=>By g.ex U gs)
 refine hold λP_2 k_2=>?_;obtain⟨tt,F,hat,C,kR,_,hq2⟩:=(S.fo.same s1).at (S.wd.same s1) U;refine k_2 ?_;have nL:F.length<=G.m+1:=by have:=s.len; grind
 have hin:∀q∈F,q.2∈aZ G n:=λq J=>by grind
 refine eL (hat ((S.wo.same s1).gs aa) λ_ _=>aa) λD s2=>?_;have s02:=s1.trans s2;cases d with| zero=>
  refine fc (b:=true) (di (bF (dz aa (λ_ _=>az) (by rfl))) (by rfl)) (λ_ H3 s3=>?_) λz=>absurd z (by decide);refine F1 S.wo.cl S.wo.n8 rfl ob rfl rfl S.wo.dk S.wo.mp m6 λR q=>?_;have y:=s02.trans s3;obtain⟨Vp,c1,Aq⟩:=S.wo.Aq;refine nj (vS (K:=K) aa ((s2.trans s3).tup kR) λH4 s4 LR=>?_);have s04:=y.trans s4;let keep:Int × Int->Bool:=λq=>decide (Builtin.bitAnd q.2 (cK Vp q.1)≠0);refine wj (xs:=F.map q1) (by rw[yB,u4]; lia) (λZ i ys u=>ah H4 u/\ys=(((F.take i).filter λq=>keep q.2).map λq=>dJ q.2.1).map V.int) (λZ i ys u z=>⟨z.1.tup LR,?_⟩) (λZ hZ=>⟨ah.new hZ _,by rfl⟩) (λZ i ys u v R R0 hZ ⟨sm,ey⟩ m hv k1' X5=>?_) λZ ys H8 hZ ⟨sm,ey⟩ m=>?_;·grind
  ·rw[v3] at hv;obtain⟨q,J,rfl⟩:=wT.mp hv;have jN:q∈F:=j1 J;have htk:F.take (i+1)=F.take i++[q]:=by rw[zAm,J]; rfl
   have hf:=s.fld _ (hin q jN);have s0H:=s04.trans sm;refine⟨q.1,_,rfl,(s2.trans (s3.trans (s4.trans sm))).tup (hq2 q jN),rfl,.int q.2.1,_,rfl,.int q.2.2,_,rfl,rfl,?_⟩;refine (aO aa λH9 s9=>aR (nG (d_ aa ((s0H.trans s9) _ _ ob) S.wo.cl S.wo.n5 rfl) ((s0H.trans s9) _ _ c1) (λ_ _=>aa) λ_ _=>az) (iM Vp q.2.1)) _ λH9 s9=>⟨_,rfl,?_⟩;dsimp only;by_cases hz:Builtin.bitAnd q.2.2 (cK Vp q.2.1)=0
   ·rw[xI (by simp [hz])];refine X5 H9 (s9 _ _ m) ⟨sm.trans s9,?_⟩;rw[htk,zCe,ey];simp [keep,hz]
   ·rw[v6 (by simp [hz])];refine (qv (aA aa) hf.1 (by lia)) _ λHa sa'=>k1' _ Ha ((s9.trans sa') _ _ m) ⟨(sm.trans (s9.trans sa')).put hZ _,?_⟩;rw[htk,zCe,ey];simp [keep,hz]
  rw[yB,zAd] at ey;obtain⟨is,hnn,h17⟩:=Vo (keep:=keep) S.wd.wf U Aq λ_=>rfl;have eb:((aZ G n).filter keep).map (λq=>dJ q.1)=(F.filter λq=>keep q.2).map λq=>dJ q.2.1:=by rw[<-C,List.filter_map,zAa]; rfl
  rw[eb] at is hnn h17;exact⟨Z,_,rfl,ay.of (by rw[m,ey]),hnn,by lia,fin _ G L H8 _ (S.wd.go (s04.trans sm) (y6 _)) (y6 _) is q⟩| succ d=>
  refine fc (b:=false) (di (bF (dz aa (λ_ _=>az) (by rfl))) (zAx λz=>by injection z with z; lia)) (λz=>absurd z (by decide)) λ_ H3 s3=>?_;refine F1 S.wo.cl S.wo.n8 rfl ob rfl rfl S.wo.dk S.wo.mp m6 λR q=>?_;have y:=s02.trans s3;have X4:L+((G.m+1) * cC G.m d+2)<=15000000:=hL;have O:∀i,i<=G.m+1->i * cC G.m d<=(G.m+1) * cC G.m d:=λi hi=>zA9 _ hi;obtain⟨XY,Mi⟩:=S.fo.ob;refine bQ ((S.wo.same y).gs aa) (y _ _ Mi) rfl λH4 s4=>qX (v:=.int ((d+1:Nat):Int)) (aR (aO aa λ_ _=>az) (by congr 1; simp)) λH5 s5=>IC ?_;have X:=s2.trans (s3.trans (s4.trans s5));refine vS (K:=K) aa (X.tup kR) λH6 s6 UR=>?_;have IQ:=s1.trans (X.trans s6);have S6:=S.same IQ;refine FJ (S:=λq=>wF G ts d q.2) (e:=d) (c:=cC G.m d) (by lia) UR (λq J=>(X.trans s6).tup (hq2 q J)) S6.wd (λ_ _=>rfl) (λi q l u R J j k=>?_) λZ gs l u hZ j m hg z=>?_
  ·have hc1:=O (i+1) (by have:=(q0.mp J).1; lia);rw[zBc] at hc1;have nq:=s.num _ (hin q (j1 J));have Si:=S6.go j;obtain⟨IF,q3⟩:=Si.wo.ob;refine bQ aa q3 rfl λHc sc=>(au (v:=.int ((d+1:Nat):Int)) (aR (aO aa λ_ _=>az) (by congr 1; simp)) λHd sd=>aA aa) _ λHe se=>?_;have sce:=sc.trans se;refine⟨p,sa,d,q.2.2,A,W,M,l,_,h,x,ts,rfl,by ext,Si.same sce,nq.ext j.ex,by rw[j.ex.m]; lia,λr G2 D g is2=>?_⟩;rw[j.ex.m] at g;exact k r G2 D (g.pre sce) (is2.iff λfs=>By j.ex nq fs)
  ·have hc0:=O F.length nL;refine⟨sa,Z,d,A,M,l,_,gs,rfl,(S6.go j).fo,j.wd,ay.of m,hg,z.u6 (by rw[C]; exact s.rise) (by rw[C,j.ex.m]; exact s.fld),by lia,λr G2 D g is2=>?_⟩;exact fin r G2 _ D _ ((j.trans g).pre IQ) (by show _<=L+((G.m+1) * cC G.m d+2); lia) (is2.iff λfs=>(z.PY fs).trans (by rw[C]; exact RX fs)) q
theorem Vq (K:zzA)(h:X.K=K:=by rfl):uU X (Tj K):=h ▸ Tn
noncomputable def Sq (K:zzA)(H:Hp)(a:M1)(xs:List V):Prop:=ay K H a xs\/aG K H a xs
theorem Mm {K:zzA}(h:Gv l σ H (.ref a))(g:∀H',ah H H'->Gv f σ H' (.int i))(b:Sq K H a xs)(j:g6 xs i=some v):Gv (cT (Tj K) l f) σ H v:=λR r=>h _ λm c=>g m c _ λk d=>by
 rcases b with b | b;·exact .inl ⟨a,xs,i,v,rfl,rfl,(c.trans d).seq b,j,r k (c.trans d)⟩
 ·exact .inr (.inl ⟨a,xs,i,v,rfl,rfl,(c.trans d).tup b,j,r k (c.trans d)⟩)
theorem RY {K:zzA}(h:Ga d σ H [.ref a])(b:Sq K H a xs):Gv (oN (λxs H Q=>∃x n,xs=[x]/\rC K x H n/\Q (.int n) H) d) σ H (.int xs.length):=vN h λ_ s=>by
 rcases b with b | b;·exact .inl ⟨xs,s.seq b,rfl⟩
 ·exact .inr ⟨xs,s.tup b,rfl⟩
theorem OA {xs:List V}(h:k < xs.length):g6 xs (-1 - (k:Int))=xs[xs.length - 1 - k]?:=by unfold g6 zH;rw[xI (by lia),v6 (by lia)];show xs[_]?=_;congr 1;lia
theorem drop_one {l:List Int}(h:k < l.length):l.drop k=l.getD k 0::l.drop (k+1):=by ext
theorem BA:∀(l a b:List Int),HT.lexLt (l++a) (l++b)=HT.lexLt a b| [],a,b=>rfl| x::l,a,b=>by rw[List.cons_append,List.cons_append,HT.eV,v6 rfl]; exact BA l a b
theorem OB {c:TA}{g:TG}{b us:TS}{D:Ends}{σ:L2.St}{H:Hp}{lo n:Nat}(h:Ga c σ H [.int (lo:Int),.int ((lo+n:Nat):Int)])(o:lo+n<=1000)(a:Nat->L2.St->Hp->Prop)(j:∀H',ah H H'->a 0 σ H')(l:∀i σ H,i < n->a i σ H->g (.int ((lo:Int)+(i:Int))) σ H λf d=>b { D with nx:=a (i+1),ct:=a (i+1),bk:=us D } f d) (m:∀σ H,a n σ H->us D σ H):eY (lS (Jx c) g b) us D σ H:= h _ λH' s=>⟨(lo:Int),((lo+n:Nat):Int),rfl,(by lia),by
  have e:(((lo+n:Nat):Int) - (lo:Int)).toNat=n:=by lia
  rw[e];exact BY (lo:=(lo:Int)) (n:=n) (D:={ D with nx:=us D }) a (j H' s) l m⟩
inductive wG (vs:List V)(H:Hp)(Q:VK)(E_:XK):Prop| mk (n:Int):vs=[.int n]->(∀H',ah H H'->Q (.int (i9 n)) H')->wG vs H Q E_
theorem BB:aN ["bits"] ["bits"] (aE iY):=cI
theorem BC (T:Txt K mg t):aL P w K mg base bg 1 t.uX t.kY ["bits"] wG:=by
 refine T.yg.fn.ok BB (λe H Q E h=>?_) (λb A a s H e Q E g h=>?_)
 ·obtain⟨f,rfl,_⟩:=h;rfl
 obtain⟨n,rfl,k⟩:=h;refine⟨_,(av (aK (aC cX (N7 K PySem.F.plainAttrs_int PySem.F.slot_int_bit_length PySem.F.type_int_bit_length LF (aC vC (pv 0) (eF cY (pv 0)))) ao))),?_⟩;refine bU (v:=.int (i9 n)) (aO (λR r=>(aO aa λ_ _=>nW aa) _ λc d=>⟨rfl,_,rfl,rfl,r c d⟩) λ_ _=>az) ‹_›
inductive F6 (K:zzA)(P:zAA)(w:zAE)(C:M1)(vs:List V)(H:Hp)(Q:VK)(E_:XK):Prop| mk (s fa:M1) (fl:List Int) (A:FA) (M:Mp) (G:Gs) (L:Nat):vs=[.ref s,.ref fa]->Fo K C M H s A->Wd K P w M G L H->(∀H',Kw M H H'->Sq K H' fa (fl.map V.int))->fl≠[]->fl.length<=10->(∀f∈fl,-1<=f/\f < G.m)->L<=15000000->(∀r G' H',Go K P w M G H (L+fl.length) G' H'->Is G' (fl.length - 1) r (λfs=>fs=fl)->Q (.int r) H')->F6 K P w C vs H Q E_
theorem fU:aN ["self","fields","number","depth"] ["self","fields"] (aE eN):=cI
theorem mR (T:Txt K mg t):aL P w K mg base bg 2 t.mY t.gw ["self","fields"] (F6 K P w t.aF):=by
 have c:=qZ (P:=P) (w:=w) (base:=base) T;have a:=bx (P:=P) (w:=w) (base:=base) T;refine T.kq.fn.ok fU (λvs H Q E h=>?_) (λcdv Ar outer sh H vs Q E hr h=>?_)
 ·obtain⟨s,fa,b,A,M,G,L,rfl,_⟩:=h;rfl
 obtain⟨s,fa,b,A,M,G,L,rfl,F,W,u,hne,hlen,hfl,hL,kk⟩:=h;refine⟨_,(aj (bh 2 fU.nd (cD T.tG c hr aM (af (aI (Vq K) (pv 1) (eF cY ao) (λ_ _=>rfl)) ai))) (aj (cS zAl rfl (BX rfl T.cH (af ao (af (aH (dB K) (by rfl) T.cg zA1 (af (pv 1) ai)) ai))) (bu 3 fU.nd) (av (bh 2 fU.nd (cM T.bC T.aX a hr aM (pv 0) (af (pv 3) (af (bH (af (bw (af (aI (Vq K) (pv 1) (aC cX (eF cY ao) (pv 3)) (λ_ _=>rfl)) (af (pv 2) ai))) ai)) ai)))))) (av (aK (pv 2))))),?_⟩;obtain⟨n,hn⟩:∃n,b.length=n+1:=⟨b.length - 1,by have:=List.length_pos_iff.mpr hne; lia⟩;have few:=W.wf.few;have y:∀k,k<=n->g6 (b.map V.int) (-1 - (k:Int))=some (.int (b.getD (n - k) 0))/\-1<=b.getD (n - k) 0/\b.getD (n - k) 0 < G.m:=λk hk=>by
  have N:n - k < b.length:=by grind
  have e1:b.getD (n - k) 0=b[n - k]:=by grind
  refine⟨?_,by ext,by ext⟩;rw[OA (by grind),yB,show b.length - 1 - k=n - k by ext,v3,y8 N,e1];rfl
 obtain⟨z,e,h0c⟩:=y 0 (zAb _);rw[Nat.sub_zero] at z e h0c;refine eL (qv (aA (Mm (K:=K) aa (λ_ _=>nW az) (u H .refl) z)) e (by lia)) λH1 s1=>?_;refine OB (lo:=1) (n:=n) (au az λv m=>aA (aR (RY (K:=K) (aA aa) (u v (.same (s1.trans m)))) (by grind))) (by lia) (λi σ J=>∃e3 C r,σ=[some (.ref s),some (.ref fa),some (.int r),e3]/\Go K P w M G H (L+i) C J/\Is C i r λU=>U=b.drop (n - i)) (λv m=>⟨none,G,_,by first | rfl,W.go (s1.trans m) (y6 _),?_⟩) (λi σ J hi Z=>?_) fun σ J Z=>?_
 ·rw[Nat.sub_zero,drop_one (by ext),List.drop_eq_nil_of_le (by ext)];refine⟨⟨zC3 (lN _),n_ (zC3 (lN _)) λf hf=>?_⟩,λU=>⟨?_,?_⟩⟩;·rw[(lC e f).mp hf]; symm
  ·rintro⟨f,rfl,hf⟩;rw[(lC e f).mp hf]
  ·rintro rfl;exact⟨_,rfl,(lC e _).mpr rfl⟩
 ·obtain⟨e3,I,r,rfl,o,d⟩:=Z;obtain⟨D,O,Y⟩:=y (i+1) ‹_›;have Fi:=F.kw o.kw;obtain⟨IF,q3⟩:=Fi.ob;refine bQ aa q3 rfl λv m=>?_;refine (aa (by rfl)) _ λH3 s3=>?_;have x:=m.trans s3;refine IC (Ak (tR (v1:=.int (b.getD (n - (i+1)) 0)) (Mm (K:=K) (i:=-1 - ((i+1:Nat):Int)) aa (λ_ _=>aR (aO (nW az) λ_ _=>aa) (by grind)) (u _ (o.kw.st x)) D) λH4 s4=>(aa (by rfl)) _ λH5 s5=>⟨(by decide),λnt R=>⟨(by decide),λl hl=>?_⟩⟩));have j:=(x.trans (s4.trans s5)).trans ((ah.new R (.tup [.int (b.getD (n - (i+1)) 0),.int r])).trans (ah.new hl (.lst [.ref nt])));refine⟨s,l,i,A,M,I,L+i,[(nt,b.getD (n - (i+1)) 0,r)],?_,Fi.same j,o.wd.same j,ay.of aq,λq hq=>?_,⟨by simp,by rw[o.ex.m]; simpa using ⟨O,Y⟩,by simpa using d.1⟩,by lia,λr' C Hf X S=>?_⟩
  ·show [V.ref s,V.int (((1:Nat):Int)+(i:Int)),V.ref l]=_;congr 3;lia
  ·rw[wP.mp hq];exact (ah.new hl (.lst [.ref nt])).tup g5
  ·refine⟨_,C,r',rfl,o.trans (X.pre j),S.iff λU=>?_⟩;rw[drop_one (show n - (i+1) < b.length by grind),show n - (i+1)+1=n - i by lia];constructor
   ·rintro⟨f,g,p,rfl,B,hg⟩;simp at B;obtain⟨rfl,rfl⟩:=B;rw[(d.2 g).mp hg,y2]
   ·rintro rfl;exact⟨_,_,r,rfl,by simp,(d.2 _).mpr rfl⟩
 ·obtain⟨e3,I,r,rfl,o,d⟩:=Z;refine bU aa λv m=>kk r I v ((o.st m).le (by ext)) ?_;rw[hn,zA7];rw[zCs,List.drop_zero] at d;exact d
inductive F7 (K:zzA)(P:zAA)(w:zAE)(C:M1)(vs:List V)(H:Hp)(Q:VK)(E_:XK):Prop| mk (s:M1) (d:Nat) (n:Int) (A:FA) (M:Mp) (G:Gs) (L:Nat):vs=[.ref s,.int (d:Int),.int n]->Fo K C M H s A->Wd K P w M G L H->Num G d n->n≠0->G.m<=5->d<=10->(∀p fl H',ah H H'->aG K H' p (fl.map V.int)->Mem G d n fl->(∀fs,Mem G d n fs->HT.lexLt fs fl=false)->Q (.ref p) H')->F7 K P w C vs H Q E_
theorem eO:aN ["self","depth","number","found","left","first"] ["self","depth","number"] (aE fh):=cI
theorem vg (T:Txt K mg t):aL P w K mg base bg 2 t.nZ t.gT ["self","depth","number"] (F7 K P w t.aF):=by
 have a:=BC (P:=P) (w:=w) (base:=base) T;refine T.qf.fn.ok eO (λvs H Q E h=>?_) (λcdv Ar outer sh H vs Q E hr h=>?_)
 ·obtain⟨s,d,n,A,M,G,L,rfl,_⟩:=h;rfl
 obtain⟨s,d,n,A,M,G,L,rfl,F,W,hn,n0,hm,hd,kk⟩:=h;refine⟨_,(aj (bh 3 eO.nd (bH ai)) (aj (cS zAl rfl (bP rfl T.cH (af (pv 1) ai)) (bu 4 eO.nd) (aj (bh 5 eO.nd (aI (cQ K) (aI (cO K) (bf K (pv 0)) (pv 2) (λ_ _=>rfl)) ao (λ_ _=>rfl))) (aj (cU (mX K zAo zAq zAr dh (pv 3) (af (aI (cQ K) (pv 5) ao (λ_ _=>rfl)) ai))) (av (bh 2 eO.nd (aI (cQ K) (pv 5) ao (λ_ _=>rfl))))))) (av (aK (gM (Lg K) (by rfl) T.Bk boot_tuple (af (aC jq (pv 3) (bH (af (cD T.yg a hr aM (af (pv 2) ai)) ai))) ai)))))),?_⟩;obtain⟨dx,ob⟩:=F.ob;refine aP ⟨(by simp),λZ hZ=>?_⟩;refine lJ (n:=d) (aA aa) (by lia) (λi σ O=>i<=d/\∃e4 e5 f o,σ=[some (.ref s),some (.int (d:Int)),some (.int f),some (.ref Z),e4,e5]/\ah H O/\O Z=some (.lst (o.map V.int))/\o.length=i/\Num G (d - i) f/\f≠0/\(∀g,Mem G (d - i) f g->Mem G d n (o++g))/\ ∀J,Mem G d n J->(∃g,J=o++g/\Mem G (d - i) f g)\/∀g,HT.lexLt J (o++g)=false) (λH1 N=>⟨zAb _,none,none,n,[],by rfl,(ah.new hZ _).trans N,N _ _ aq,rfl,hn,n0,λg h=>h,(by ext)⟩) (λi σ O hi hP=>?_) fun σ O hP=>?_
 ·refine hold λP_2 k_2=>?_;obtain⟨_,e4,e5,f,o,rfl,sm,u,hfl,c,Y,m,b⟩:=hP;obtain⟨k,hk⟩:∃k,d - i=k+1:=⟨d - i - 1,by grind⟩;refine k_2 ?_;have B:d - (i+1)=k:=by grind
  rw[hk] at c m b;have Fi:=F.same sm;refine hold λX6 Mn=>?_;obtain⟨tt,qs,hat,eqs,kR,_,hq2⟩:=Fi.at (W.same sm) c;obtain⟨r,bz,bne,_⟩:=W.wf.aZ c;obtain⟨q,qr,rfl⟩:∃q qr,qs=q::qr:=by cases qs with| nil=>ext| cons q qr=>simp
  refine Mn ?_;have x:q.2∈aZ G f:=by grind
  refine eL (v:=.ref q.1) (cG (K:=K) (hat aa λ_ _=>aa) (λ_ _=>az) kR (bL (j:=0) rfl)) λH2 C=>?_;have y:=C.tup (hq2 q zAc);refine L0 aa (C _ _ u) (λH3 S=>cG (K:=K) aa (λ_ _=>az) (S.tup y) rfl) (by rw[yB,u4]; lia) λH3 S=>?_;have mu3:eX (H3 Z):=by rw[(C.trans S) _ _ u]; exact True.intro
  refine Ez (v:=.int q.2.2) (cG (K:=K) aa (λ_ _=>az) ((Tk.put mu3).tup (S.tup y)) rfl) λH4 s4=>?_;refine⟨by symm,_,_,q.2.2,o++[q.2.1],rfl,((sm.trans (C.trans S)).put hZ _).trans s4,s4 _ _ (by rw[aq,v4]; rfl),by ext,by rw[B]; exact r.num _ x,bz _ x,λg U=>?_,λJ I=>?_⟩
  ·rw[B] at U;rw[List.append_assoc];exact m _ ⟨q.2.1,g,q.2.2,rfl,x,U⟩
  ·rcases b J I with ⟨g,rfl,f',tl',p',e,D,X⟩ | h
   ·subst e;by_cases hf:f'=q.2.1
    ·left;subst hf;have e1:=pD r.nd D;have e2:=pD r.nd (show (q.2.1,q.2.2)∈aZ G f from x);rw[e2] at e1;refine⟨tl',by simp,?_⟩;rw[B,e1];exact X
    ·right;intro g;rw[List.append_assoc,BA,List.singleton_append,HT.eV,xI hf];refine zAx ?_;have:q.2.1 < f':=by
      rw[<-eqs] at D;have hr:=r.rise;rw[<-eqs] at hr;rcases u1.mp D with z | z;·exact absurd (zAz Prod.fst z) hf
      ·exact (List.pairwise_cons.mp hr).1 _ z
     lia
   ·right;intro g;rw[List.append_assoc];exact h _
 ·refine hold λP0 An=>?_;obtain⟨_,e4,e5,f,o,rfl,sm,u,hfl,c,Y,m,b⟩:=hP;refine An ?_;rw[zCs] at c m b;obtain⟨l1,l2⟩:=Oi hm c.1 c.2 Y;refine nj ((aa (by rfl)) _ λH1 N=>Ak ((eB (sp:=wG) (v:=.int (i9 f)) (aA aa) λO R s k=>⟨f,rfl,k⟩) _ λH2 C=>⟨(by show 1<=PK; decide),λl hl=>?_⟩));have X7:ah H2 (upd H2 l (.lst [.int (i9 f)])):=ah.new hl _;refine⟨Z,l,o.map V.int,[.int (i9 f)],rfl,rfl,(N.trans (C.trans X7)) _ _ u,aq,by rw[yB,u4]; simp; lia,λq hq=>⟨q,(o++[i9 f]).map V.int,rfl,.inl ⟨ay.of (by rw[aq,v4]; rfl),λp hp=>?_⟩⟩⟩;refine kk p (o++[i9 f]) _ ((sm.trans (N.trans (C.trans X7))).trans ((ah.new hq _).trans (ah.new hp _))) (aG.of aq) (m _ ⟨_,rfl,l1⟩) λJ I=>?_;rcases b J I with ⟨g,rfl,f',rfl,hf'⟩ | h
  ·rw[BA,HT.eV];have:=l2 f' hf';split;·rfl
   ·exact zAx (by ext)
  ·exact h _
end
end fX
namespace L2
open PySem PySem.Spec PyProof.Rows TB
section
variable {X:Cx}
end
section
variable {X:Cx}{pos:Pos}
end
section
variable {K:zzA}{ix:List (Option Nat)}{g:TG}{tf:TT}{te:TE}{σ:St}{H H1:Hp}{Q:M1->Hp->Prop}{a:M1}
theorem RZ {f:TA}{k:TS}{D:Ends}{y:Str}{l j:Nat}(h:Ga f σ H [.str y])(q:y.cps.all (· < 128)=true)(b:Nat->St->Hp->Prop)(x:∀H',ah H H'->b 0 σ H')(r:∀i σ H d,i < y.cps.size->b i σ H->H d=none->k { D with nx:=b (i+1),ct:=b (i+1),bk:=D.nx } ((σ.set l (some (.int (i:Int)))).set j (some (e_ y i))) (upd H d (.tup [.int (i:Int),e_ y i]))) (o:∀σ H,b y.cps.size σ H->D.nx σ H) : lS (EY f) (rB K 2 (gJ (cz l) (gJ (cz j) t_))) k D σ H:=by
 refine h _ λH' s=>⟨y,rfl,q,?_⟩;refine⟨λi m σ H=>m=y.cps.size - i/\i<=y.cps.size/\b i σ H,(by ext),?_⟩;rintro i m σ H ⟨rfl,u,p⟩;by_cases c:i < y.cps.size
 ·refine .inr ⟨c,b _,λw H' n=>⟨y.cps.size - (i+1),by grind,rfl,c,n⟩,λv H' z=>?_⟩;obtain⟨d,rfl,t,rfl⟩:=z;exact⟨d,_,rfl,aG.of aq,rfl,_,_,rfl,_,_,rfl,rfl,r i σ H d c p t⟩
 ·have e:i=y.cps.size:=by lia
  subst e;exact .inl ⟨rfl,o σ H p⟩
theorem R3 {j:TA}{e us:TS}{D:Ends}{y:Str}{c d:Nat}(h:Ga j σ H [.str y])(k:y.cps.all (· < 128)=true)(b:Nat->St->Hp->Prop)(m:∀H',ah H H'->b 0 σ H')(l:∀i σ H f,i < y.cps.size->b i σ H->H f=none->e { D with nx:=b (i+1),ct:=b (i+1),bk:=us D } ((σ.set c (some (.int (i:Int)))).set d (some (e_ y i))) (upd H f (.tup [.int (i:Int),e_ y i]))) (n:∀σ H,b y.cps.size σ H->us D σ H) : eY (lS (EY j) (rB K 2 (gJ (cz c) (gJ (cz d) t_))) e) us D σ H:=RZ h k b m l n
end
end L2
namespace fX
open PySem PySem.Spec PyProof.Rows L2 kg TB WD
noncomputable def dX (l:List Int)(i:Nat):Int:=if i=0 then -1 else l.getD (i - 1) 0
noncomputable def IS (x:Str)(ts:dM)(w:Str)(l c:List Int)(i:Nat):Prop:=o_ x w (c.getD i 0)/\[dX l i,dX c i,l.getD i 0,c.getD i 0]∈ts
noncomputable def Mq (S:List Int->Prop)(x:Str)(ts:dM)(ws:List Str):List Int->Prop:=λa=>∃l c,S l/\c.length=ws.length/\(∀i w,ws[i]?=some w->IS x ts w l c i)/\a=c++l.drop (ws.length - 1)
theorem BD (a:List Int):Mq S x ts [] a↔S a:=by
 constructor
 ·rintro⟨l,c,f,b,e,d⟩;have:=List.length_eq_zero_iff.mp b;subst this;rw[d];symm
 ·exact λh=>⟨a,[],h,rfl,by simp,rfl⟩
theorem F9:∀(r:Nat) (c rest g:List Int),c.length=r+1->(Pl x ts ls r (c++rest) g↔∃b l1 a k,rest=b::l1::a/\g=c++k::l1::a/\o_ x ls k/\[b,c.getD r 0,l1,k]∈ts)
 | 0,c,rest,g,d=>by match c,d with
  | [u],_=>
   constructor
   ·rintro⟨A,l,z,a,k,t,o,f,j⟩;injection t with p m;subst p;exact⟨l,z,a,k,m,o,f,j⟩
   ·rintro⟨b,l1,a,k,rfl,rfl,f,j⟩;exact⟨u,b,l1,a,k,rfl,rfl,f,j⟩
 | r+1,c,rest,g,d=>by match c,d with
  | u::h,d=>
   have e:=by simpa using d
   have y:=F9 (x:=x) (ls:=ls) (ts:=ts) r h rest;constructor
   ·rintro⟨A,n,i,t,o,f⟩;injection t with p m;subst p;obtain⟨b,l1,a,k,v,q,s,w⟩:=(y i e).mp (by rw[show h++rest=n from m]; exact f);exact⟨b,l1,a,k,v,by rw[o,q]; rfl,s,by simpa using w⟩
   ·rintro⟨b,l1,a,k,v,q,s,w⟩;exact⟨u,h++rest,h++k::l1::a,rfl,q,(y _ e).mpr ⟨b,l1,a,k,v,rfl,s,by simpa using w⟩⟩
theorem F_ {l:List Int}(h:l.drop r=a::l1::b):l.getD r 0=a/\l.getD (r+1) 0=l1/\l.drop (r+1)=l1::b:=by
 have d:l[r]?=some a:=by have:=zAz (λz=>z[0]?) h;grind
 have c:l[r+1]?=some l1:=by have:=zAz (λz=>z[1]?) h;grind
 refine⟨by ext,by ext,?_⟩;have:=zAz (List.drop 1) h;simpa using this
theorem IT (e:i < c.length):IS x ts w l (c++a) i↔IS x ts w l c i:=by
 have d:(c++a).getD i 0=c.getD i 0:=by grind
 have b:dX (c++a) i=dX c i:=by unfold dX;grind
 unfold IS;ext
theorem OC (W:∀l,S l->l.length=h+1)(hr:ws.length<=h)(q:∀E,Mem G (P5 h ws.length) n E↔Mq S x ts ws E)(I:List Int):P6 G x ts w h ws.length n I↔Mq S x ts (ws++[w]) I:=by
 have d:∀{i:Nat} {v:Str},(ws++[w])[i]?=some v->(i < ws.length/\ws[i]?=some v)\/(i=ws.length/\v=w):=λ{i v} e=>by grind
 cases a:ws.length with
 | zero=>
  have L:=List.length_eq_zero_iff.mp a;subst L;show U_ G x ts w h n I↔_;unfold U_;constructor
  ·rintro⟨f,k,rfl,t,D,rest,rfl,p,N⟩;refine⟨D::rest,[k],(BD _).mp ((q _).mp t),rfl,λi v e=>?_,rfl⟩;rcases d e with ⟨z,_⟩ | ⟨V,u⟩;·exact absurd z (by simp)
   ·have:i=0:=by symm
    subst this;rw[u];exact⟨p,N⟩
  ·rintro⟨l,c,t,p,N,rfl⟩;have M:=W l t;match c,p with| [k],_=> match l,M with| D::rest,_=> obtain⟨s,B⟩:=N 0 w rfl;exact⟨D::rest,k,rfl,(q _).mpr ((BD _).mpr t),D,rest,rfl,s,B⟩
 | succ r=>
  show CA G x ts w r (h+1) n I↔_;unfold CA;rw[a] at q;constructor
  ·rintro⟨E,t,p⟩;obtain⟨l,c,H,o,C,rfl⟩:=(q E).mp t;rw[a] at o;have X:ws.length - 1=r:=by ext
   rw[X] at p;obtain⟨g,m,f,k,s,rfl,a3,Y⟩:=(F9 r c _ _ o).mp p;obtain⟨J,R,O⟩:=F_ s;refine⟨l,c++[k],H,by simp [a,o],λi v e=>?_,?_⟩
   ·rcases d e with ⟨z,u⟩ | ⟨V,u⟩;·exact (IT (by ext)).mpr (C i v u)
    ·subst V; subst u;rw[a];have F:(c++[k]).getD (r+1) 0=k:=by rw[y2,zAs (by ext),o]; simp
     have P:dX (c++[k]) (r+1)=c.getD r 0:=by unfold dX;rw[xI (by lia),zA7,y2,y2,zAg (by ext)]
     have T:dX l (r+1)=g:=by unfold dX;rw[xI (by lia),zA7,J]
     unfold IS;rw[F,P,T,R];exact⟨a3,Y⟩
   ·rw[zAf,a];show c++k::m::f=(c++[k])++l.drop (r+1+1 - 1);rw[show r+1+1 - 1=r+1 by rfl,O];simp
  ·rintro⟨l,c,H,o,C,rfl⟩;have M:=W l H;rw[zAf,a] at o;have Q:=by simpa using o
   obtain⟨b,k,rfl⟩:∃b k,c=b++[k]:=⟨c.dropLast,c.getLast (λz=>by rw[z] at Q; simp at Q),(List.dropLast_concat_getLast _).symm⟩;have y:=by simpa using Q
   have j:∃g m f,l.drop r=g::m::f:=by
    have A:(l.drop r).length=h+1 - r:=by rw[List.length_drop,M]
    match l.drop r,A with| g::m::f,_=>exact⟨g,m,f,rfl⟩| [],K=>simp at K; lia| [_],K=>simp at K; lia
   obtain⟨g,m,f,U⟩:=j;obtain⟨J,R,O⟩:=F_ U;refine⟨b++l.drop r,(q _).mpr ⟨l,b,H,by ext,λi v e=>?_,by rw[a,zA7]⟩,?_⟩
   ·have Z:=(q0.mp e).1;exact (IT (by ext)).mp (C i v (by rw[zAg Z]; exact e))
   ·obtain⟨s,B⟩:=C (r+1) w (by rw[zAs (by ext),a]; simp);have F:(b++[k]).getD (r+1) 0=k:=by rw[y2,zAs (by ext),y]; simp
    have P:dX (b++[k]) (r+1)=b.getD r 0:=by unfold dX;rw[xI (by lia),zA7,y2,y2,zAg (by ext)]
    have T:dX l (r+1)=g:=by unfold dX;rw[xI (by lia),zA7,J]
    rw[F] at s;rw[F,P,T,R] at B;refine (F9 r b _ _ y).mpr ⟨g,m,f,k,U,?_,s,B⟩;rw[zAf,a];show (b++[k])++l.drop (r+1+1 - 1)=_;rw[show r+1+1 - 1=r+1 by rfl,O];simp
noncomputable def r6 (S:List Int->Prop)(x:Str)(ts:dM)(ws:List Str)(h:Nat):List Int->Prop:=λc=>∃l,S l/\c.length=h+1/\(∀i w,ws[i]?=some w->IS x ts w l c i)/\[l.getD h 0,c.getD h 0,-1,-1]∈ts
theorem Vr (p:∀l,S l->l.length=h+1)(o:ws.length=h+1)(i:List Int):(∃l,Mq S x ts ws (i++[l])/\[l,i.getLastD 0,-1,-1]∈ts)↔r6 S x ts ws h i:=by
 have b:∀c:List Int,c.length=h+1->c.getLastD 0=c.getD h 0:=λc t=>by grind
 have d:∀l:List Int,l.length=h+1->l.drop h=[l.getD h 0]:=λl k=>by
  have g:(l.drop h).length=1:=by ext
  match e:l.drop h,g with| [a],_=> grind
 constructor
 ·rintro⟨u,⟨l,c,f,q,n,m⟩,j⟩;have k:=p l f;rw[o,zA7,d l k] at m;have s:=List.append_inj_left' m rfl;have r:=(List.cons.inj (List.append_inj_right' m rfl)).1;subst s;rw[r,b _ (by ext)] at j;exact⟨l,f,by ext,n,j⟩
 ·rintro⟨l,f,q,n,j⟩;have k:=p l f;exact⟨l.getD h 0,⟨l,i,f,by lia,n,by rw[o,zA7,d l k]⟩,by rw[b _ q]; exact j⟩
noncomputable def jP (y:Str):List Str:=y.cps.toList.map λc=>⟨#[c]⟩
theorem uJ (y:Str):(jP y).length=y.cps.size:=by unfold jP; simp
theorem xO (a:i < y.cps.size):(jP y)[i]?=some ⟨#[y.cps.getD i 0]⟩:=by unfold jP;ext
theorem Mr (h:Cs c=true):PyData.strOk ⟨#[c]⟩=true:=by
 have d:=zAi h;have b:∀c∈Fw.cps.toList,PyData.strOk ⟨#[c]⟩=true:=by decide +kernel
 exact b c d
theorem Vs (h:Cs c=true):c < 128:=by
 have d:=zAi h;have b:∀c∈Fw.cps.toList,c < 128:=by decide +kernel
 exact b c d
section
variable {P:zAA}{w:zAE}{K:zzA}{mg:Str->Option Value}{base:Heap}{t:Ad}
noncomputable def CG (m h a:Nat):Nat:=P4 m (h+1) a+cC m h
noncomputable def Qc (h a:Nat):Nat:=if a=h then h else h+1
noncomputable def Qd (G:Gs)(x:Str)(ts:dM)(ls:Str)(h a:Nat)(n:Int):List Int->Prop:=λb=>if a=h then ∃l,P6 G x ts ls h a n (b++[l])/\[l,b.getLastD 0,-1,-1]∈ts else P6 G x ts ls h a n b
inductive CH (K:zzA)(P:zAA)(w:zAE)(CF C:M1)(vs:List V)(H:Hp)(Q:VK)(E_:XK):Prop| mk (p sa:M1) (row:Nat) (n:Int) (ls:Str) (A:FA) (W:WA) (M:Mp) (G:Gs) (L h:Nat) (x:Str) (ts:dM):vs=[.ref p,.int (row:Int),.int n,.str ls]->row < h+1->h+1<=8->Al K P w CF C M G L H p sa A W x (h+1) ts->Num G (P5 h row) n->PyData.strOk ls=true->L+CG G.m h row<=15000000->(∀r G' H',Go K P w M G H (L+CG G.m h row) G' H'->Is G' (Qc h row) r (Qd G x ts ls h row n)->Q (.int r) H')->CH K P w CF C vs H Q E_
theorem q4:aN ["self","row","front","letters","found"] ["self","row","front","letters"] (aE ic):=cI
theorem AA (T:Txt K mg t):aL P w K mg base bg 31 t.tD t.jY ["self","row","front","letters"] (CH K P w t.aF t.bB):=by
 have b:=Ay (P:=P) (w:=w) (base:=base) T;have a:=Az (P:=P) (w:=w) (base:=base) T 10;refine T.v7.fn.ok q4 (λvs H Q E h=>?_) (λcdv Ar N sh H vs Q E R h=>?_)
 ·obtain⟨p,D,d,n,C,A,W,M,G,L,h,x,I,rfl,_⟩:=h;rfl
 obtain⟨p,D,d,n,C,A,W,M,G,L,h,x,I,rfl,l,z,S,hn,F,hL,O⟩:=h;refine⟨_,(aj (bh 4 q4.nd (cM T.v5 T.eT b R aM (pv 0) (af (pv 1) (af (pv 2) (af (pv 3) ai))))) (av (aK (yC (a_ dQ (pv 1) (aC cX (bf K (pv 0)) ao) rfl) (cM T.mL T.eT a R aM (pv 0) (af (bf K (pv 0)) (af (pv 4) ai))) (pv 4))))),?_⟩;obtain⟨dx,Z⟩:=S.wo.ob;have hL':L+(P4 G.m (h+1) d+cC G.m h)<=15000000:=hL;refine aP (bQ aa Z rfl λH2 s2=>(au aa λ_ _=>au aa λ_ _=>aA aa) _ λH3 s3=>?_);have q:=s2.trans s3;refine⟨p,D,d,n,C,A,W,M,G,L,h,x,I,rfl,l,z,S.same q,hn,F,by lia,λr V H4 f s=>?_⟩;have e:=f.pre q;have y:=S.go e;obtain⟨dx4,J⟩:=y.wo.ob;have g:Gt (qG (cT Ea (cF 1) (cT (oM λi j=>.int (i - j)) (kh K (cF 0) "high") (tC (.int 1))))) [some (.ref p),some (.int (d:Int)),some (.int n),some (.str C),some (.int r)] H4 (decide (d=h)):= di (bF (dz aa (λH5 k=>aO ((y.wo.same k).gh aa) λ_ _=>az) (by rfl))) (by lia);refine cV (g _ λH5 k=>?_);by_cases c:d=h
 ·rw[v6 (j2 c)];refine bQ aa (k _ _ J) rfl λU u=>(au (v:=.int ((h+1:Nat):Int)) ((y.wo.same (k.trans u)).gh aa) λ_ _=>aA aa) _ λH7 s7=>?_;have o:=k.trans (u.trans s7);refine⟨p,D,h,r,A,W,M,V,_,h+1,x,I,rfl,by lia,y.same o,s.1,by rw[f.ex.m]; lia,λX Y H8 m B=>?_⟩;rw[f.ex.m] at m;refine O X Y H8 ((e.trans (m.pre o)).le (by unfold CG; lia)) ?_;unfold Qc Qd;simp only [v6 c];refine B.iff λgs=>?_;unfold wF;simp only [s.2]
 ·rw[xI (by ext)];refine (aa (by rfl)) _ λU u=>O r V U ((e.st (k.trans u)).le (by unfold CG; simp)) ?_;unfold Qc Qd;simp only [xI c];symm
noncomputable def yj (m h:Nat):Nat:=((range (h+1)).map (CG m h)).sum
theorem nH (f:Nat->Nat)(i:Nat):((range (i+1)).map f).sum=((range i).map f).sum+f i:=by rw[zA2,v4,List.sum_append];rfl
theorem wH (f:Nat->Nat):∀(k i:Nat),i<=k->((range i).map f).sum<=((range k).map f).sum
 | 0,i,h=>by ext| k+1,i,h=>by
  by_cases e:i=k+1;·ext
  ·have:=wH f k i (by lia);rw[nH];lia
inductive CI (K:zzA)(P:zAA)(w:zAE)(CF C:M1)(vs:List V)(H:Hp)(Q:VK)(E_:XK):Prop| mk (p sa:M1) (n:Int) (y:Str) (A:FA) (W:WA) (M:Mp) (G:Gs) (L h:Nat) (x:Str) (ts:dM):vs=[.ref p,.int n,.str y]->y.cps.size=h+1->bM y=true->h+1<=8->Al K P w CF C M G L H p sa A W x (h+1) ts->Num G h n->L+yj G.m h<=15000000->(∀r G' H',Go K P w M G H (L+yj G.m h) G' H'->Is G' h r (r6 (Mem G h n) x ts (jP y) h)->Q (.int r) H')->CI K P w CF C vs H Q E_
theorem gX:aN ["self","columns","choices","front","row","letters"] ["self","columns","choices"] (aE ie):=cI
theorem q7 (T:Txt K mg t):aL P w K mg base bg 32 t.tE t.jZ ["self","columns","choices"] (CI K P w t.aF t.bB):=by
 have a:=AA (P:=P) (w:=w) (base:=base) T;refine T.qg.fn.ok gX (λvs H Q E h=>?_) (λcdv Ar C sh H vs Q E hr h=>?_)
 ·obtain⟨p,Y,n,y,A,W,M,G,L,h,x,ts,rfl,_⟩:=h;rfl
 obtain⟨p,Y,n,y,A,W,M,G,L,h,x,ts,rfl,hy,J,B,S,hn,hL,kk⟩:=h;refine⟨_,(aj (bh 3 gX.nd (pv 1)) (aj (cS zAl rfl (NZ T.G6 (af (pv 2) ai)) (jd K (n:=2) (aY (bu 4 gX.nd) (aY (bu 5 gX.nd) fm))) (av (bh 3 gX.nd (cM T.v7 T.eT a hr aM (pv 0) (af (pv 4) (af (pv 3) (af (pv 5) ai))))))) (av (aK (pv 3))))),?_⟩;have d:=J;unfold bM at d;rw[zAj] at d;have O:∀i,i < y.cps.size->Cs (y.cps.getD i 0)=true:=λi X=>d _ (by ext);have k:y.cps.all (· < 128)=true:=by rw[<-Array.all_toList,zAj];exact λc hc=>j2 (Vs (d c hc))
 have Z:∀l,Mem G h n l->l.length=h+1:=λl z=>tN _ _ _ z;have hLs:L+((range (h+1)).map (CG G.m h)).sum<=15000000:=hL;refine eL aa λH1 s1=>?_;refine R3 (K:=K) (aA aa) k (λi σ s=>i<=h+1/\∃V R f j,σ=[some (.ref p),some (.int n),some (.str y),some (.int f),V,R]/\Go K P w M G H (L+((range i).map (CG G.m h)).sum) j s/\(i < h+1->Is j (P5 h i) f (Mq (Mem G h n) x ts ((jP y).take i)))/\(i=h+1->Is j h f (r6 (Mem G h n) x ts (jP y) h))) (λs s2=>⟨zAb _,none,none,n,G,rfl,S.wd.go (s1.trans s2) (by simp),λ_=>⟨hn,λfs=>(BD fs).symm⟩,λz=>by ext⟩) ?_ ?_
 ·rintro i σ s tp X ⟨D,V,R,f,j,rfl,v,b,_⟩ U;have o:i < h+1:=by ext
  have b:=b o;have g:=v.st (ah.new U (.tup [.int (i:Int),e_ y i]));generalize upd s tp (.tup [.int (i:Int),e_ y i])=H3 at *;have S3:=S.go g;obtain⟨dx3,I⟩:=S3.wo.ob;have N:=wH (CG G.m h) (h+1) (i+1) ‹_›;rw[nH] at N;refine Rg (bQ aa I rfl λH4 s4=>(au aa λ_ _=>au aa λ_ _=>aA aa) _ λH5 s5=>?_);have q:=s4.trans s5;refine⟨p,Y,i,f,⟨#[y.cps.getD i 0]⟩,A,W,M,j,_,h,x,ts,rfl,o,B,S3.same q,b.1,Mr (O i X),by rw[g.ex.m]; lia,λr G' H6 m e=>?_⟩;rw[g.ex.m] at m;have u:((jP y).take i).length=i:=by rw[zBv,uJ]; ext
  have F:(jP y).take (i+1)=(jP y).take i++[⟨#[y.cps.getD i 0]⟩]:=by rw[zAm,xO X]; rfl
  have step:=OC (G:=j) (x:=x) (w:=⟨#[y.cps.getD i 0]⟩) (ts:=ts) (ws:=(jP y).take i) (h:=h) (n:=f) (S:=Mem G h n) Z (by lia) (by rw[u]; exact b.2);rw[u,<-F] at step;refine⟨by symm,_,_,r,G',rfl,by rw[nH,<-add_assoc]; exact g.trans (m.pre q),λz=>?_,λz=>?_⟩ <;> unfold Qc Qd at e
  ·have c:¬ i=h:=by lia
   simp only [xI c] at e;exact e.iff step
  ·have c:i=h:=by ext
   simp only [v6 c] at e;rw[show (jP y).take (i+1)=jP y from List.take_of_length_le (by rw[uJ]; ext)] at step;refine e.iff λgs=>Iff.trans ?_ (Vr Z (by rw[uJ]; exact hy) gs);simp only [step]
 ·rintro σ s ⟨D,V,R,f,j,rfl,v,_,b⟩;rw[hy] at v b;exact bU aa λH3 s3=>kk f j H3 (v.st s3) (b rfl)
inductive Gb (K:zzA)(P:zAA)(w:zAE)(CF C:M1)(vs:List V)(H:Hp)(Q:VK)(E_:XK):Prop| mk (p sa:M1) (A:FA) (W:WA) (M:Mp) (G:Gs) (L h:Nat) (x:Str) (ts:dM):vs=[.ref p]->h+1<=8->Al K P w CF C M G L H p sa A W x (h+1) ts->L<=14000000->(∀r G' H',Go K P w M G H (L+10) G' H'->Is G' h r (λfs=>fs=replicate (h+1) (-1))->Q (.int r) H')->Gb K P w CF C vs H Q E_
theorem wI:aN ["self"] ["self"] (aE fJ):=cI
theorem wJ (T:Txt K mg t):aL P w K mg base bg 3 t.oQ t.g8 ["self"] (Gb K P w t.aF t.bB):=by
 have a:=mR (P:=P) (w:=w) (base:=base) T;refine T.qS.fn.ok wI (λB H Q E h=>?_) (λC U g X H B Q E F h=>?_)
 ·obtain⟨p,q,A,W,M,G,L,h,x,z,rfl,_⟩:=h;rfl
 obtain⟨p,q,A,W,M,G,L,h,x,z,rfl,I,S,O,s⟩:=h;refine⟨_,(av (aK (cM T.kq T.aX a F aM (bf K (pv 0)) (af (aC zI (bH (af (eu rfl T.gn T.gp) ai)) (bf K (pv 0))) ai)))),?_⟩;obtain⟨J,n⟩:=S.fo.ob;refine cV (bQ (S.wo.gs aa) n rfl λV m=>?_);refine (Fl (xs:=[.int (-1)]) (k:=h+1) (ju (aA az) (by decide)) (λv o=>(S.wo.same (m.trans o)).gh aa) (by lia) (by grind)) _ λu v l o c=>?_;have b:=m.trans o;rw[v8] at c;have i:=S.wd.off (m.free l);refine⟨q,u,replicate (h+1) (-1),A,M,G,L,rfl,S.fo.same b,S.wd.same b,λN k=>.inl (ay.of (k.keep _ _ c i)),by simp,by grind,λf R=>?_,by lia,λr D y j d=>?_⟩;·grind
 ·have e:(replicate (h+1) (-1:Int)).length - 1=h:=by simp
  rw[e] at d;exact s r D y ((j.pre b).le (by lia)) d
noncomputable def wK (x:Str)(a:dM)(h:Nat):List Str->List Int->Prop| []=>λc=>c=replicate (h+1) (-1)| y::b=>r6 (wK x a h b) x a (jP y) h
theorem AB (q:∀l,S l↔a l)(c:List Int):r6 S x ts ws h c↔r6 a x ts ws h c:=by unfold r6;ext
noncomputable def q_:List Int->List Int| [a,b,c,d]=>[b,a,d,c]| l=>l
theorem Vt (h:uI m e):uI m (q_ e):=by obtain⟨j,i⟩:=h;match e,j with| [a,b,c,d],_=> refine⟨rfl,λf g=>i f ?_⟩;simp [q_] at g ⊢;lia
theorem R8 {ts:dM}(h:∀e∈ts,uI m e):[a,b,c,d]∈ts.map q_↔[b,a,d,c]∈ts:=by
 constructor
 ·intro z;obtain⟨e,i,f⟩:=xL.mp z;have g:=(h e i).1;match e,g with| [l,j,k,n],_=> simp [q_] at f;ext
 ·exact λz=>xL.mpr ⟨_,z,rfl⟩
noncomputable def ri (K:zzA)(H:Hp)(a T:M1)(x:Str)(ps:zzD):Prop:=aG K H a [.str x,.ref T]/\ay K H T (ps.map rv)/\∀q∈ps,aG K H q.1 (q.2.map V.int)
theorem ri.same (h:ri K H a T x ps)(s:ah H H'):ri K H' a T x ps:=⟨s.tup h.1,s.seq h.2.1,λq b=>s.tup (h.2.2 q b)⟩
inductive IU (K:zzA)(vs:List V)(H:Hp)(Q:VK)(E_:XK):Prop| mk (T:M1) (ps:zzD):vs=[.ref T]->ay K H T (ps.map rv)->(∀q∈ps,aG K H q.1 (q.2.map V.int))->(∀q∈ps,q.2.length=4)->ps.length<=1000->(∀(Z:M1) (qs:zzD) (H':Hp),H Z=none->ah H H'->H' Z=some (.lst (qs.map rv))->(∀q∈qs,aG K H' q.1 (q.2.map V.int))->qs.map (·.2)=(ps.map (·.2)).map q_->Q (.ref Z) H')->IU K vs H Q E_
theorem xU:aN ["tiles"] ["tiles"] (aE gk):=cI
theorem xV (T:Txt K mg t):aL P w K mg base bg 1 t.pZ t.iI ["tiles"] (IU K):=by
 refine T.tF.fn.ok xU (λvs H Q E h=>?_) (λcdv Ar C sh H vs Q E hr h=>?_)
 ·obtain⟨TT,o,rfl,_⟩:=h;rfl
 obtain⟨TT,o,rfl,Y,M,h4,S,W⟩:=h;refine⟨_,(av (aK (gg ["left","right","low_left","low_right"] [none,none,none,none] (dD K (pv 0)) (λ_ _ _ _ u=>⟨(jd K (n:=4) (aY (bu 0 u) (aY (bu 1 u) (aY (bu 2 u) (aY (bu 3 u) fm))))),bT,(bw (af (pv 1) (af (pv 0) (af (pv 3) (af (pv 2) ai)))))⟩)))),?_⟩;refine cV (lW (K:=K) aa Y λH1 y A=>?_);refine o8 (xs:=o.map rv) (by rw[yB,u4]; lia) (λZ i x s=>ah H1 s/\∃f:zzD,x=f.map rv/\f.length=i/\(∀q∈f,aG K s q.1 (q.2.map V.int))/\i<=o.length/\f.map (·.2)=((o.take i).map (·.2)).map q_) (λZ i x s z=>⟨z.1.seq A,?_⟩) (λZ l=>⟨ah.new l _,[],rfl,rfl,by simp,zAb _,by rfl⟩) (λZ i x s v R R0 l ⟨p,f,D,F,j,hi,k⟩ e N L X5=>?_) λZ x H2 l ⟨p,f,D,F,j,hi,k⟩ e=>?_;·grind
 ·rw[v3] at N;obtain⟨q,g,rfl⟩:=wT.mp N;have m:=j1 g;have hil:=(q0.mp g).1;have I:=h4 q m;have G:=(y.trans p).tup (M q m);obtain⟨qa,X⟩:=q;match X,I with
  | [a,b,c,d],_=>
   refine⟨qa,_,rfl,G,rfl,.int a,_,rfl,.int b,_,rfl,.int c,_,rfl,.int d,_,rfl,rfl,?_⟩;dsimp only [ly];rw[v6 rfl];refine (au aa λ_ _=>au aa λ_ _=>au aa λ_ _=>aA aa) _ λH3 s3=>⟨(by show 4<=PK; decide),λU J=>?_⟩;have r:=s3.trans (ah.new J (.tup [.int b,.int a,.int d,.int c]));have O:eX (upd H3 U (.tup [.int b,.int a,.int d,.int c]) Z):=by rw[r _ _ e]; exact True.intro
   refine L _ _ (r _ _ e) ⟨(p.trans r).put l _,f++[(U,[b,a,d,c])],by rw[D,v4]; rfl,by simp [F],λq' B=>?_,by symm,?_⟩
   ·rcases w8.mp B with z | z;·exact ny O (r.tup (j q' z))
    ·rw[wP.mp z];exact ny O (aG.of aq)
   ·rw[zAm,g,v4,v4,v4,k];rfl
 ·rw[yB] at k F;rw[zAd] at k;exact W Z f H2 (y.free l) (y.trans p) (by rw[e,D]) j k
section
variable {C:M1}{sp:Sp}{E:XK}{te:TE}{tt:TA}{σ:L2.St}{H:Hp}{v:V}
theorem Ms {R:VK}(h:tt σ H λvs b=>∀x a,b x=none->b a=none->a≠x->sp (.ref x::(vs++[])) (upd (upd b a (.own x)) x (.ins C a [])) (λv c=>v=.bq/\R (.ref x) c) E):zE C sp [] E tt σ H R:=h
theorem ee {R:List V->Hp->Prop}(h:te σ H λv b=>tt σ b λvs a=>R (v::vs) a):cA te tt σ H R:=h
end
inductive BE (K:zzA)(P:zAA)(w:zAE)(CF CW:M1)(f:dM->dM)(vs:List V)(H:Hp)(Q:VK)(E_:XK):Prop| mk (sa sys T:M1) (x:Str) (ps:zzD) (A:FA) (M:Mp) (G:Gs) (L h:Nat):vs=[.ref sa,.ref sys,.int ((h+1:Nat):Int)]->ri K H sys T x ps->Fo K CF M H sa A->Wd K P w M G L H->(∀q∈ps,uI x.length q.2)->x.length<=G.m->ps.length<=1000->(∀p W M' H',Ex M M' H->Al K P w CF CW M' G L H' p sa A W x (h+1) (f (ps.map (·.2)))->Kw M H H'->Q (.ref p) H')->BE K P w CF CW f vs H Q E_
theorem CJ {J n p i y g:M1}{E:XK}{R:VK}{H f:Hp}{x:Str}{h:Nat}{ps:zzD}{A:FA}{M:Mp}{G:Gs}{L:Nat}(F:Fo K J M H i A)(W:Wd K P w M G L H)(s:ah H f)(U:f p=none)(B:f g=none)(nd:g≠p)(r:ay K f y (ps.map rv))(I:∀q∈ps,aG K f q.1 (q.2.map V.int))(C:∀q∈ps,uI x.length q.2)(S:x.length<=G.m)(hl:ps.length<=1000)(k:∀W l H',Ex M l H->Al K P w J n l G L H' p i A W x h (ps.map (·.2))->Kw M H H'->R (.ref p) H'):zc K P w J n [.ref p,.ref i,.str x,.ref y,.int (h:Int)] (upd (upd f g (.own p)) p (.ins n g [])) (λv Y=>v=.bq/\R (.ref p) Y) E:=by
 have N:upd f g (.own p) p=none:=by rw[aD (Ne.symm nd)]; symm
 have u:ah f (upd (upd f g (.own p)) p (.ins n g [])):=(ah.new B _).trans (ah.new N _);have c:=s.trans u;have j:=s.free U;have D:p≠i:=λz=>by obtain⟨d,e⟩:=F.ob; ext
 refine⟨p,i,y,g,x,h,ps,A,M,G,L,rfl,aq,W.off j,D,u.seq r,λq r=>u.tup (I q r),C,S,by lia,F.same c,W.same c,λW' l H' Q Z O=>⟨rfl,k W' l H' ⟨Q.old,λa X m=>Q.new a (dm c a X) m⟩ Z ?_⟩⟩;exact⟨(Tk.same c).trans O.tk,λb o e _=>O.keep b o (c _ _ e) (aS e j),λb T=>O.live b (dm c b T)⟩
theorem Dg:aN ["sets","system","high"] ["sets","system","high"] (aE jB):=cI
theorem Dh (T:Txt K mg t):aL P w K mg base bg 5 t.vZ t.mq ["sets","system","high"] (BE K P w t.aF t.bB id):=by
 have a:=oS (P:=P) (w:=w) (base:=base) T;refine T.z_.fn.ok Dg (λy H Q E h=>?_) (λu D d N H y Q E z h=>?_)
 ·obtain⟨r,g,TT,x,B,A,M,G,L,h,rfl,_⟩:=h;rfl
 obtain⟨r,g,TT,x,B,A,M,G,L,h,rfl,⟨i,m,s⟩,F,W,e,n,c,j⟩:=h;refine⟨_,(av (aK (E2 T.Iq T.nE a (z.mono (by simp)) T.LO aM (af (pv 0) (af (aI (cQ K) (pv 1) ao (λ_ _=>rfl)) (af (aI (cQ K) (pv 1) ao (λ_ _=>rfl)) (af (pv 2) ai))))))),?_⟩;exact cV ((au aa λv b=>au (cG (K:=K) aa (λ_ _=>az) (b.tup i) rfl) λJ l=>au (cG (K:=K) aa (λ_ _=>az) ((b.trans l).tup i) rfl) λO I=>aA aa) _ λv b=>λp R C f k=>CJ F W b C f k (b.seq m) (λq o=>b.tup (s q o)) e n c (j p))
theorem Ge:aN ["sets","system","high"] ["sets","system","high"] (aE kC):=cI
theorem Gf (T:Txt K mg t):aL P w K mg base bg 5 t.yf t.nJ ["sets","system","high"] (BE K P w t.aF t.bB (List.map q_)):=by
 have b:=oS (P:=P) (w:=w) (base:=base) T;have a:=xV (P:=P) (w:=w) (base:=base) T;refine T.Ck.fn.ok Ge (λvs H Q E h=>?_) (λU Ar k sh H vs Q E u h=>?_)
 ·obtain⟨C,o,TT,x,i,A,M,G,L,h,rfl,_⟩:=h;rfl
 obtain⟨C,o,TT,x,i,A,M,G,L,h,rfl,⟨s,O,V⟩,F,W,d,z,f,y⟩:=h;refine⟨_,(av (aK (E2 T.Iq T.nE b (u.mono (by simp)) T.LO aM (af (pv 0) (af (aI (cQ K) (pv 1) ao (λ_ _=>rfl)) (af (cD T.tF a u aM (af (aI (cQ K) (pv 1) ao (λ_ _=>rfl)) ai)) (af (pv 2) ai))))))),?_⟩;refine cV (Ms (qX aa λH1 e=>qX (cG (K:=K) aa (λ_ _=>az) (e.tup s) rfl) λH2 g=>ee (iH (aA (cG (K:=K) aa (λ_ _=>az) ((e.trans g).tup s) rfl)) λH3 r=>⟨TT,i,rfl,(e.trans (g.trans r)).seq O,λq c=>(e.trans (g.trans r)).tup (V q c),λq c=>(d q c).1,f,λZ qs H4 hZ S j n v=>(aA aa) _ λH5 m=>λp dx I l R=>?_⟩)));have J:=zAz length v;simp at J;refine CJ F W (e.trans (g.trans (r.trans (S.trans m)))) I l R (ay.of (m _ _ j)) (λq c=>m.tup (n q c)) (λq c=>?_) z (by ext) (by rw[v]; exact y p);have:q.2∈(i.map (·.2)).map q_:=by grind
 obtain⟨tl,Y,D⟩:=xL.mp this;obtain⟨X,B,N⟩:=xL.mp Y;rw[<-D,<-N];exact Vt (d X B)
theorem Mt {d:TA}{g:TG}{j:TS}{D:Ends}{σ:L2.St}{H:Hp}{a:M1}{xs:List V}(h:Ga d σ H [.ref a])(r:ay K H a xs)(b:Nat->L2.St->Hp->Prop)(A:∀H',ah H H'->b 0 σ H')(f:∀i σ H,b i σ H->ay K H a xs)(n:∀i x σ H,i < xs.length->xs[xs.length - 1 - i]?=some x->b i σ H->g x σ H λu k=>j { D with nx:=b (i+1),ct:=b (i+1),bk:=D.nx } u k) (o:∀σ H,b xs.length σ H->D.nx σ H):lS (N2 K d) g j D σ H:=by
 refine h _ λH' s=>⟨a,xs,rfl,s.seq r,?_⟩;refine⟨λi m σ H=>m=xs.length - i/\i<=xs.length/\b i σ H,(by ext),?_⟩;rintro i m σ H ⟨rfl,B,p⟩;by_cases c:i < xs.length
 ·refine .inr ⟨⟨xs,f i σ H p,rfl,c⟩,b (i+1),λC H' y=>⟨xs.length - (i+1),by grind,rfl,c,y⟩,λv H' z=>?_⟩;obtain⟨rfl,l⟩:=z;exact n i v σ _ c (l xs (f i σ _ p)) p
 ·have e:i=xs.length:=by lia
  subst e;exact .inl ⟨rfl,o σ H p⟩
theorem Mu {c:TA}{g:TG}{d us:TS}{D:Ends}{σ:L2.St}{H:Hp}{a:M1}{xs:List V}(h:Ga c σ H [.ref a])(e:ay K H a xs)(b:Nat->L2.St->Hp->Prop)(m:∀H',ah H H'->b 0 σ H')(l:∀i σ H,b i σ H->ay K H a xs)(n:∀i x σ H,i < xs.length->xs[xs.length - 1 - i]?=some x->b i σ H->g x σ H λj k=>d { D with nx:=b (i+1),ct:=b (i+1),bk:=us D } j k) (o:∀σ H,b xs.length σ H->us D σ H):eY (lS (N2 K c) g d) us D σ H:=Mt (D:={ D with nx:=us D }) h e b m l n o
theorem Vu (h:Gv d σ H (.ref a))(e:ay K H a xs):Gn (ND K d) σ H xs.reverse:=λR r=>h _ λf b=>.inr ⟨a,xs,rfl,b.seq e,λp c=>r p _ (b.free c) (b.trans (ah.new c _)) aq⟩
noncomputable def Gg (m h k:Nat):Nat:=10+k * yj m h
inductive IV (K:zzA)(P:zAA)(w:zAE)(CF:M1)(vs:List V)(H:Hp)(Q:VK)(E_:XK):Prop| mk (sa sys T C:M1) (x:Str) (ps:zzD) (A:FA) (M:Mp) (G:Gs) (L h:Nat) (ys:List Str):vs=[.ref sa,.ref sys,.int ((h+1:Nat):Int),.ref C]->ri K H sys T x ps->Fo K CF M H sa A->Wd K P w M G L H->(∀q∈ps,uI x.length q.2)->x.length<=G.m->ps.length<=1000->H C=some (.lst (ys.map V.str))->M C=none->(∀y∈ys,y.cps.size=h+1/\bM y=true)->ys.length<=12->h+1<=8->L+Gg G.m h ys.length<=14000000->(∀(Z:M1) (rs:List Int) M' G' H',Ex M M' H->Go K P w M' G H (L+Gg G.m h ys.length) G' H'->H' Z=some (.lst (rs.map V.int))->M' Z=none->rs.length=ys.length->(∀i r,rs[i]?=some r->Is G' h r (wK x ((ps.map (·.2)).map q_) h (ys.drop i)))->Q (.ref Z) H')->IV K P w CF vs H Q E_
theorem dw:aN ["sets","system","high","columns","walk","behind","found","choices"] ["sets","system","high","columns"] (aE ff):=cI
theorem vh (T:Txt K mg t):aL P w K mg base bg 33 t.nY t.gR ["sets","system","high","columns"] (IV K P w t.aF):=by
 have e:=Gf (P:=P) (w:=w) (base:=base) T;have b:=wJ (P:=P) (w:=w) (base:=base) T;have c:=q7 (P:=P) (w:=w) (base:=base) T;refine T.qe.fn.ok dw (λvs H Q E h=>?_) (λcdv Ar outer sh H vs Q E hr h=>?_)
 ·obtain⟨sa,sys,TT,C,x,ps,A,M,G,L,h,d,rfl,_⟩:=h;rfl
 obtain⟨sa,sys,TT,C,x,ps,A,M,G,L,h,d,rfl,hS,F,Wd0,htl,hx,hlen,hC,mC,hys,hyl,Aw,hL,kk⟩:=h;refine⟨_,(aj (bh 4 dw.nd (cD T.Ck e hr aM (af (pv 0) (af (pv 1) (af (pv 2) ai))))) (aj (bh 5 dw.nd (LI T.qS T.eT b (hr.mono (by simp)) aM (pv 4))) (aj (bh 6 dw.nd (bH ai)) (aj (cS zAl rfl (Uv K T.J9 (af (pv 3) ai)) (bu 7 dw.nd) (aj (bh 5 dw.nd (cM T.qg T.eT c hr aM (pv 4) (af (pv 5) (af (pv 7) ai)))) (av (cU (mX K zAo zAq zAr dh (pv 6) (af (pv 5) ai)))))) (av (aK (YU K (pv 6)))))))),?_⟩;have hL':L+(10+d.length * yj G.m h)<=14000000:=hL;refine aP (iH (au aa λ_ _=>au aa λ_ _=>aA aa) λH1 s1=>⟨sa,sys,TT,x,ps,A,M,G,L,h,rfl,hS.same s1,F.same s1,Wd0.same s1,htl,hx,hlen,λp W M' H2 ex S2 kw2=>?_⟩);generalize (ps.map (·.2)).map q_=k at *;have J:Ex M M' H:=⟨ex.old,λa ha m=>ex.new a (dm s1 a ha) m⟩;have B:=((Kw.same s1).trans kw2).ex J.old;obtain⟨dx2,ob2⟩:=S2.wo.ob;refine aP (bQ aa ob2 rfl λH3 s3=>⟨p,sa,A,W,M',G,L,h,x,k,rfl,Aw,S2.same s3,by lia,λn G4 H4 go4 is4=>?_⟩);refine aP ⟨(by simp),λu Y=>?_⟩;have mF:=go4.wd.off Y;have hF2:=(go4.pre s3).kw.free Y;have go5:=(go4.pre s3).st (ah.new Y (.lst []));have Qe:upd H4 u (.lst []) u=some (.lst (([]:List Int).map V.int)):=aq;generalize upd H4 u (.lst [])=H5 at *;have S:=J.new C (by ext) mC;have X8:=B.keep _ _ hC S;have hone:∀i,i<=d.length->i * yj G.m h<=d.length * yj G.m h:=λi I=>zA9 _ I;refine Mu (K:=K) (aA aa) (ay.of (go5.kw.keep _ _ X8 S)) (λi σ O=>i<=d.length/\∃e7 n s o,σ=[some (.ref sa),some (.ref sys),some (.int ((h+1:Nat):Int)),some (.ref C),some (.ref p),some (.int n),some (.ref u),e7]/\Go K P w M' G H2 (L+10+i * yj G.m h) s O/\O u=some (.lst (o.map V.int))/\o.length=i/\ Is s h n (wK x k h (d.drop (d.length - i)))/\∀j r,o[j]?=some r->Is s h r (wK x k h (d.drop (d.length - 1 - j)))) (λO s6=>⟨zAb _,none,n,G4,[],by rfl,(go5.st s6).le (by simp),s6 _ _ Qe,rfl,is4.iff λl=>by rw[Nat.sub_zero,List.drop_length]; rfl,by simp⟩) (λi σ O z=>by obtain⟨_,e7,n,s,o,_,f,_⟩:=z; exact ay.of (f.kw.keep _ _ X8 S)) (λi v σ O I hv hP=>?_) fun σ O hP=>?_
 ·refine hold λX6 Mn=>?_;obtain⟨hi',e7,n',s,o,rfl,f,U,q,N,D⟩:=hP;refine Mn ?_;rw[yB] at I hv;rw[v3] at hv;obtain⟨y,Mv,rfl⟩:=wT.mp hv;obtain⟨hy1,zo⟩:=hys y (by grind);have hc:=hone (i+1) ‹_›;rw[zBc] at hc;have Si:=S2.go f;obtain⟨IF,q3⟩:=Si.wo.ob;refine aP (bQ aa q3 rfl λH7 s7=>(au aa λ_ _=>aA aa) _ λH8 s8=>?_);have X_:=s7.trans s8;refine⟨p,sa,n',y,A,W,M',s,_,h,x,k,rfl,hy1,zo,Aw,Si.same X_,N.1,by rw[f.ex.m]; lia,λr G' H9 PZ U1=>?_⟩;rw[f.ex.m] at PZ;have g:=PZ.pre X_;have Cr:=g.kw.keep _ _ U mF;refine jt ((aa (v:=.ref u) (by rfl)) _ λHa R=>⟨.inl ⟨rfl,_,ay.of (R _ _ Cr)⟩,(aA aa) _ λHb sb=>⟨u,_,_,rfl,rfl,(R.trans sb) _ _ Cr,by rw[yB,u4]; lia,?_⟩⟩);have Yb:=R.trans sb;have Ma:eX (Hb u):=by rw[Yb _ _ Cr]; exact True.intro
  have X:d.drop (d.length - (i+1))=y::d.drop (d.length - i):=by
   have e1:d.length - 1 - i=d.length - (i+1):=by lia
   rw[e1] at Mv;obtain⟨hlt,e2⟩:=q0.mp Mv;rw[zCf hlt,e2,show d.length - (i+1)+1=d.length - i by grind]
  have CB:Is G' h r (wK x k h (d.drop (d.length - (i+1)))):=by rw[X];exact U1.iff (AB N.2)
  refine⟨by symm,_,r,G',o++[r],rfl,?_,by rw[aq,v4]; rfl,by simp [q],CB,λj r' hj=>?_⟩;·exact (((f.trans g).st Yb).own hF2 mF Ma).le (by rw[zBc]; lia)
  ·by_cases hji:j < o.length
   ·rw[zAg hji] at hj;exact (D j r' hj).ext g.ex
   ·rw[zAs (by ext)] at hj;have h0:=by have:=(q0.mp hj).1;simp at this;omega
    rw[h0] at hj;simp at hj;subst hj;rw[show d.length - 1 - j=d.length - (i+1) by grind];exact CB
 ·obtain⟨_,e7,n',s,o,rfl,f,U,q,N,D⟩:=hP;rw[yB] at f q;refine cV (Vu (K:=K) aa (ay.of U) _ λZ H7 hZ s7 u7=>?_);refine kk Z o.reverse M' s H7 J ((⟨f.wd,f.ex,B.trans f.kw⟩:Go K P w M' G H _ s O).st s7 |>.le (by unfold Gg; lia)) (by rw[u7,List.map_reverse]) (f.wd.off hZ) (by simp [q]) λi r I=>?_;have hil:=(q0.mp I).1;rw[List.length_reverse] at hil;rw[List.getElem?_reverse hil] at I;have:=D _ r I;rw[show d.length - 1 - (o.length - 1 - i)=i by grind] at this;exact this
end
noncomputable def mS (x:Str)(ts:zzB)(h:Nat)(a:List Int)(y:Str)(r:List Str)(c:List Int):Prop:=r6 (λl=>l=a) x ts (jP y) h c/\wK x (ts.map q_) h (y::r) c
inductive Rl (x:Str)(ts:zzB)(h:Nat):List Int->List Str->Option (zzB)->Prop| nil {prev:List Int}:Rl x ts h prev [] (some [])| none {prev:List Int} {y:Str} {r:List Str}:(∀c,¬ mS x ts h prev y r c)->Rl x ts h prev (y::r) Option.none| cons {prev:List Int} {y:Str} {r:List Str} {c:List Int} {o:Option (zzB)}:mS x ts h prev y r c->(∀c',mS x ts h prev y r c'->HT.lexLt c' c=false)->Rl x ts h c r o->Rl x ts h prev (y::r) (o.map λl=>c::l)
section
variable {P:zAA}{w:zAE}{K:zzA}{mg:Str->Option Value}{base:Heap}{t:Ad}
noncomputable def Qf (m h k:Nat):Nat:=Gg m h k+k * (h+1+yj m h+cB m h)
inductive wL (K:zzA)(vs:List V)(H:Hp)(Q:VK)(E_:XK):Prop| mk (sys T C:M1) (x:Str) (ps:zzD) (h:Nat) (ys:List Str):vs=[.ref sys,.ref C]->ri K H sys T x ps->(∀q∈ps,uI x.length q.2)->x.length<=5->ps.length<=1000->H C=some (.lst (ys.map V.str))->ys≠[]->(∀y∈ys,y.cps.size=h+1/\bM y=true)->ys.length<=12->h+1<=8->Qf x.length h ys.length<=13000000->(∀H',ah H H'->Rl x (ps.map (·.2)) h (replicate (h+1) (-1)) ys none->Q .bq H')->(∀(Z:M1) (qs:zzD) (H':Hp),H Z=none->ah H H'->H' Z=some (.lst (qs.map rv))->(∀q∈qs,aG K H' q.1 (q.2.map V.int))->Rl x (ps.map (·.2)) h (replicate (h+1) (-1)) ys (some (qs.map (·.2)))->Q (.ref Z) H')->wL K vs H Q E_
theorem R_ {start:List Int}(q:∀o,Rl x ts h a (ys.drop i) o->Rl x ts h start ys (o.map λl=>cs++l)) (f:ys.drop i=y::r) (j:mS x ts h a y r c) (k:∀d,mS x ts h a y r d->HT.lexLt d c=false) : ∀o,Rl x ts h c (ys.drop (i+1)) o->Rl x ts h start ys (o.map λl=>(cs++[c])++l):=λo b=>by
 have g:=by have:=zAz (List.drop 1) f;simpa using this
 rw[g] at b;have:=q _ (by rw[f]; exact Rl.cons j k b);rw[Option.map_map] at this;have e:((λl=>cs++l) ∘ λl=>c::l)=λl=>(cs++[c])++l:=by grind
 rw[e] at this;symm
theorem Mw {b:TA}{c:TE}{σ:L2.St}{H:Hp}{R:VK}{v:V}{n:Nat}(h:Ga b σ H [v])(g:∀H',ah H H'->Gv c σ H' (.int (n:Int)))(o:1<=n)(i:n<=1000)(k:∀p H',ah H H'->aG K H' p (replicate n v)->R (.ref p) H'):cT (J7 K) (vF b) c σ H R:= h _ λs e=>⟨(by show 1<=PK; decide),λl a=>g _ (e.trans (ah.new a _)) _ λr d=>⟨l,v,n,rfl,rfl,d.tup (aG.of aq),o,i,λp j m f=>k p j (e.trans ((ah.new a _).trans (d.trans m))) f⟩⟩
theorem Sa {g:TA}{f us:TS}{D:Ends}{σ:L2.St}{H:Hp}{a b:M1}{xs ys:List V}{d j n:Nat}(h:Ga g σ H [.ref a,.ref b])(r:ay K H a xs)(u:ay K H b ys)(q:n<=xs.length/\n<=ys.length/\(xs.length<=n\/ys.length<=n))(c:Nat->L2.St->Hp->Prop)(l:∀H',ah H H'->c 0 σ H')(p:∀i σ H,c i σ H->ay K H a xs/\ay K H b ys)(o:∀i x y σ H e,i < n->xs[i]?=some x->ys[i]?=some y->c i σ H->H e=none->f { D with nx:=c (i+1),ct:=c (i+1),bk:=us D } ((σ.set d (some x)).set j (some y)) (upd H e (.tup [x,y]))) (m:∀σ H,c n σ H->us D σ H) : eY (lS (JO K g) (rB K 2 (gJ (cz d) (gJ (cz j) t_))) f) us D σ H:= h _ λH' s=>⟨a,b,rfl,(by grind),(by grind),Iv (D:={ D with nx:=us D }) q c (l H' s) p o m⟩
theorem bK:aN ["system","columns","high","sets","ending","walk","marks","found","column","ends","fitting"] ["system","columns"] (aE gP):=cI
theorem zd (T:Txt K mg t):aL P w K mg base bg 34 t.mw t.gS ["system","columns"] (wL K):=by
 have B:=vh (P:=P) (w:=w) (base:=base) T;have I:=Dh (P:=P) (w:=w) (base:=base) T;have F:=q7 (P:=P) (w:=w) (base:=base) T;have u:=mR (P:=P) (w:=w) (base:=base) T;have g:=tU (P:=P) (w:=w) (base:=base) T 10;have D:=vg (P:=P) (w:=w) (base:=base) T;refine T.uY.fn.ok bK (λvs H Q E h=>?_) (λcdv Ar outer sh H vs Q E hr h=>?_)
 ·obtain⟨sys,TT,C,x,ps,h,ys,rfl,_⟩:=h;rfl
 obtain⟨sys,TT,C,x,ps,h,ys,rfl,hS,htl,hx,hlen,hC,hne,hys,hyl,Aw,DG,kN,kS⟩:=h;have d:=rY (P:=P) (w:=w) (base:=base) T x.length;refine⟨_,(aj (bh 2 bK.nd (aH (dB K) (by rfl) T.cg zA1 (af (aI (cO K) (pv 1) ao (λ_ _=>rfl)) ai))) (aj (bh 3 bK.nd (LJ T.Fc T.mZ d (hr.mono (by simp)) T.GZ aM)) (aj (bh 4 bK.nd (cD T.qe B hr aM (af (pv 3) (af (pv 0) (af (pv 2) (af (pv 1) ai)))))) (aj (bh 5 bK.nd (cD T.z_ I hr aM (af (pv 3) (af (pv 0) (af (pv 2) ai))))) (aj (bh 6 bK.nd (aC (Pw K) (bw (af (eu rfl T.gn T.gp) ai)) (pv 2))) (aj (bh 7 bK.nd (bH ai)) (aj (cS zAl rfl (JQ K T.DC (af (pv 1) (af (pv 4) ai))) (jd K (n:=2) (aY (bu 8 bK.nd) (aY (bu 9 bK.nd) fm))) (aj (bh 10 bK.nd (cM T.gW T.aX g hr aM (pv 3) (af (aC cX (pv 2) ao) (af (cM T.qg T.eT F hr aM (pv 5) (af (cM T.kq T.aX u hr aM (pv 3) (af (pv 6) ai)) (af (pv 8) ai))) (af (pv 9) ai))))) (aj (bG (a_ dQ (pv 10) ao (iV _)) (av (aK zw)) aW) (aj (bh 6 bK.nd (cM T.qf T.aX D hr aM (pv 3) (af (aC cX (pv 2) ao) (af (pv 10) ai)))) (av (cU (mX K zAo zAq zAr dh (pv 7) (af (pv 6) ai)))))))) (av (aK (pv 7)))))))))),?_⟩;obtain⟨y0,yr,hy0⟩:∃y0 yr,ys=y0::yr:=by cases ys with| nil=>ext| cons a b=>simp
 have acZ:=(hys y0 (by ext)).1;refine eL (v:=.int ((h+1:Nat):Int)) (aR (fZ (K:=K) (aA (f_ (K:=K) aa (λ_ _=>az) (ay.of hC) (bL (j:=0) (by rw[hy0]; rfl)))) (small (by show y0.cps.size<=1000; lia))) (by show V.int (y0.cps.size:Int)=_; ext)) λH1 s1=>?_;refine aP (Ms (C:=t.aF) λJ dx P8 hdx nd=>?_);have Zg:upd H1 dx (.own J) J=none:=by rw[aD (Ne.symm nd)]; symm
 have s12:ah H1 (upd (upd H1 dx (.own J)) J (.ins t.aF dx [])):=(ah.new hdx _).trans (ah.new Zg _);refine⟨J,dx,rfl,aq,by lia,λA M3 H3 F3 W3 kx3 Zh=>⟨rfl,?_⟩⟩;have s02:=s1.trans s12;have Zi:H J=none:=s1.free P8;have s03:ah H H3:=λb o e=>kx3.keep b o (s02 _ _ e) (aS e Zi);have new0:∀a,H a≠none->M3 a=none:=λa ha=>Zh a (dm s02 a ha);generalize upd (upd H1 dx (.own J)) J (.ins t.aF dx [])=H2 at *;have aa1:Gg x.length h ys.length+ys.length * (h+1+yj x.length h+cB x.length h)<=13000000:=DG;refine aP (iH (au aa λ_ _=>au aa λ_ _=>au aa λ_ _=>aA aa) λH4 s4=>⟨J,sys,TT,C,x,ps,A,M3,⟨x.length,[[]],[0]⟩,0,h,ys,rfl,(hS.same s03).same s4,F3.same s4,W3.same s4,htl,y6 _,hlen,s4 _ _ (s03 _ _ hC),new0 C (by lia),hys,hyl,Aw,by grind,λE rs M5 G5 H5 Yc go5 hE5 mE hrl hrs=>?_⟩);have Yd:G5.m=x.length:=go5.ex.m;have s04:=s03.trans s4;have O:∀a,H a≠none->M5 a=none:=λa ha=>Yc.new a (dm s04 a ha) (new0 a ha);have sm5:ah H H5:=λb o e=>go5.kw.keep b o (s04 _ _ e) (O b (by ext));have F5:Fo K t.aF M5 H5 J A:=((F3.same s4).ex Yc).kw go5.kw;refine aP (iH (au aa λ_ _=>au aa λ_ _=>aA aa) λH6 s6=>⟨J,sys,TT,x,ps,A,M5,G5,_,h,rfl,hS.same (sm5.trans s6),F5.same s6,go5.wd.same s6,htl,by ext,hlen,λp W M H7 Ye S7 kw7=>?_⟩);have ets:id (ps.map (·.2))=ps.map (·.2):=rfl;rw[ets] at S7;generalize hts:ps.map (·.2)=ts at *;generalize hmm:x.length=m at *;rw[Nat.zero_add] at S7;change Al _ _ _ _ _ _ _ (Gg m h ys.length) _ _ _ _ _ _ _ _ at S7;have kw57:Kw M5 H5 H7:=(Kw.same s6).trans kw7;have new7:∀a,H a≠none->M a=none:=λa ha=>Ye.new a (dm (sm5.trans s6) a ha) (O a ha);have G:∀{Hx:Hp},Kw M H7 Hx->ah H Hx:=λ{Hx} k b o e=>k.keep b o (kw57.keep b o (sm5 _ _ e) (O b (by ext))) (new7 b (by ext));have mC:M C=none:=new7 C (by lia);have Yg:=G .refl _ _ hC;have mE7:M E=none:=Ye.new E (dm s6 E (by ext)) mE;have Yh:=kw57.keep _ _ hE5 mE;refine aP (Mw (K:=K) (n:=h+1) (aA (az (v:=.int (-1)))) (λH8 s8=>aa) (by simp) (by lia) λmk Ha Yi LW=>?_);refine aP ⟨(by simp),λN Vv=>?_⟩;have s7b:ah H7 (upd Ha N (.lst [])):=Yi.trans (ah.new Vv _);have hFb:upd Ha N (.lst []) N=some (.lst (([]:zzD).map rv)):=aq;have Zj:aG K (upd Ha N (.lst [])) mk ((replicate (h+1) (-1:Int)).map V.int):=by rw[List.map_replicate];exact (ah.new Vv _).tup LW
 have Vw:H7 N=none:=Yi.free Vv;have mF:M N=none:=S7.wd.off Vw;generalize upd Ha N (.lst [])=Hb at *;generalize hc1:h+1+yj m h+cB m h=c1 at *;have hone:∀i,i<=ys.length->i * c1<=ys.length * c1:=λi hi=>zA9 _ hi;refine Sa (K:=K) (xs:=ys.map V.str) (ys:=rs.map V.int) (n:=ys.length) (au aa λ_ _=>aA aa) (ay.of (s7b _ _ Yg)) (ay.of (s7b _ _ Yh)) ⟨by simp,by ext,.inl (by simp)⟩ (λi σ X=>i<=ys.length/\∃e8 e9 Qg mk s Gi Z,σ=[some (.ref sys),some (.ref C),some (.int ((h+1:Nat):Int)),some (.ref J),some (.ref E),some (.ref p),some (.ref mk),some (.ref N),e8,e9,Qg]/\Go K P w M G5 H7 (Gg m h ys.length+i * c1) Gi X/\ aG K X mk (s.map V.int)/\s.length=h+1/\(∀f∈s,-1<=f/\f < (m:Int))/\X N=some (.lst (Z.map rv))/\Z.length=i/\(∀q∈Z,aG K X q.1 (q.2.map V.int))/\∀o,Rl x ts h s (ys.drop i) o->Rl x ts h (replicate (h+1) (-1)) ys (o.map λl=>Z.map (·.2)++l)) (λHc sc=>⟨zAb _,none,none,none,mk,replicate (h+1) (-1),G5,[],by rfl,S7.wd.go (s7b.trans sc) (by simp),sc.tup Zj,by simp,λf hf=>by (rw[(List.mem_replicate.mp hf).2]; lia),sc _ _ hFb,rfl,by simp,λo ho=>by
   have e:(λl:zzB=>([]:zzD).map (·.2)++l)=id:=by funext l; rfl
   rw[e,Option.map_id];exact ho⟩) (λi σ X z=>by obtain⟨_,e8,e9,Qg,mk,s,Gi,Z,_,S,_⟩:=z;exact⟨ay.of (S.kw.keep _ _ Yg mC),ay.of (S.kw.keep _ _ Yh mE7)⟩) ?_ ?_
 ·rintro i vx vy σ X tp hi Yj Yk ⟨hi',e8,e9,Qg,mk,s,Gi,Z,rfl,S,Vx,hpl,hpf,Vy,Fv,hqs,CK⟩ htp;rw[v3] at Yj Yk;obtain⟨y,Mv,rfl⟩:=wT.mp Yj;obtain⟨r,hri,rfl⟩:=wT.mp Yk;obtain⟨hy1,zo⟩:=hys y (j1 Mv);have hc:=hone (i+1) ‹_›;rw[zBc] at hc;have sd:ah X (upd X tp (.tup [.str y,.int r])):=ah.new htp _;generalize upd X tp (.tup [.str y,.int r])=He at *;have L:ys.drop i=y::ys.drop (i+1):=by obtain⟨hlt,e⟩:=q0.mp Mv;rw[zCf hlt,e]
  have Se:=S7.go (S.st sd);have Vz:Gi.m=m:=S.ex.m.trans Yd;obtain⟨dxe,Yl⟩:=Se.fo.ob;obtain⟨dwe,owe⟩:=Se.wo.ob;refine aP (bQ aa Yl rfl λHf sf=>qX (v:=.int (h:Int)) (aR (aO aa λ_ _=>az) (by congr 1; simp)) λHg sg=>ee (bQ aa ((sf.trans sg) _ _ owe) rfl λHh Ym=>ee (bQ aa ((sf.trans (sg.trans Ym)) _ _ Yl) rfl λHi si=>(aA aa) _ λHj sj=>?_)));have VA:=sf.trans (sg.trans (Ym.trans (si.trans sj)));have Zk:aG K Hj mk (s.map V.int):=(sd.trans VA).tup Vx;have Sj:=Se.same VA;refine⟨J,mk,s,A,M,Gi,_,rfl,Sj.fo,Sj.wd,λH' k=>.inr (k.tk.tup Zk),λz=>by (rw[z] at hpl; simp at hpl),by lia,by rw[Vz]; exact hpf,by lia,λn1 G1 Hk Qh VB=>?_⟩;rw[hpl] at Qh;rw[show s.length - 1=h by ext] at VB;have Yn:G1.m=m:=Qh.ex.m.trans Vz;refine (aA aa) _ λHl sl=>?_;refine⟨p,J,n1,y,A,W,M,G1,_,h,x,ts,rfl,hy1,zo,Aw,(Sj.go Qh).same sl,VB.1,by rw[Yn]; lia,λn2 G2 Hm go2 is2=>?_⟩;rw[Yn] at go2;refine (aA aa) _ λHn sn=>?_;have CB:=hrs i r hri;have Y:=Qh.trans (go2.pre sl);have VC:Ext G5 G2:=S.ex.trans Y.ex;have Yo:G2.m=m:=VC.m.trans Yd;refine⟨J,h,n2,r,A,M,G2,_,rfl,by lia,(Sj.go Y).fo.same sn,go2.wd.same sn,is2.1,CB.1.ext VC,by rw[Yo]; lia,λn3 G3 Ho go3 is3=>?_⟩;rw[Yo] at go3;have R:Go K P w M Gi X _ G3 Ho:=(Y.trans (go3.pre sn)).pre (sd.trans VA);have isC:Is G3 h n3 (mS x ts h s y (ys.drop (i+1))):=is3.iff λc=>by unfold j3 mS;rw[is2.2 c,AB VB.2 c,bX VC _ _ _ CB.1,CB.2 c,L]
  have em3:G3.m=m:=R.ex.m.trans Vz;refine eG (b:=decide (n3=0)) (di (bF (dz aa (λ_ _=>az) (by rfl))) (by rw[decide_eq_decide]; constructor <;> intro z <;> first | (injection z) | (rw[z]))) (λez Hp' Qi=>?_) λez Hp' Qi=>?_;· obtain rfl:n3=0:=zAi ez;refine bU az λHq sq=>kN Hq (G ((S.trans R).kw.st (Qi.trans sq))) ?_;exact CK none (by rw[L];exact .none λc hc=>cE R.wd.wf ((isC.2 c).mpr hc))
  ·have ez':n3≠0:=of_decide_eq_false ez;have S3:=S7.go ((S.trans R).st Qi);obtain⟨dxp,obp⟩:=S3.fo.ob;refine aP (bQ aa obp rfl λHq sq=>(au (v:=.int (h:Int)) (aR (aO aa λ_ _=>az) (by congr 1; simp)) λ_ _=>aA aa) _ λHr sr=>?_);have spr:=sq.trans sr;refine⟨J,h,n3,A,M,G3,_,rfl,S3.fo.same spr,S3.wd.same spr,isC.1,ez',by rw[em3]; exact hx,by lia,λmk2 fl Hs ss VD hfl hmin=>?_⟩;have Yp:=R.st (Qi.trans (spr.trans ss));have VE:Hs N=some (.lst (Z.map rv)):=Yp.kw.keep _ _ Vy mF;refine jt ((aa (v:=.ref N) (by rfl)) _ λHt st=>⟨.inl ⟨rfl,_,ay.of (st _ _ VE)⟩,(aA aa) _ λHu su=>⟨N,_,_,rfl,rfl,(st.trans su) _ _ VE,by rw[yB,u4]; lia,?_⟩⟩);have stu:=st.trans su;have VF:eX (Hu N):=by rw[stu _ _ VE]; exact True.intro
   have Yq:=Yp.st stu;have U:=(isC.2 fl).mp hfl;have Zl:fl.length=h+1:=tN _ _ _ hfl;have hff:∀f∈fl,-1<=f/\f < (m:Int):=λf hf=>by
    obtain⟨k,hk,rfl⟩:=zA8.mp hf;obtain⟨_,_,_,h3,_⟩:=U.1;obtain⟨h4,_⟩:=h3 k _ (xO (by lia));have e2:fl.getD k 0=fl[k]:=by rw[y2,y8 hk]; rfl
    rw[e2] at h4;have h5:=h4.1;have h6:=h4.2.1;lia
   refine⟨by symm,_,_,_,mk2,fl,G3,Z++[(mk2,fl)],rfl,?_,(Tk.put VF).tup (stu.tup VD),Zl,hff,by rw[aq,v4]; rfl,by simp [Fv],λq hq=>(Tk.put VF).tup ?_,?_⟩;·exact ((S.trans Yq).own Vw mF VF).le (by rw[zBc]; lia)
   ·rcases w8.mp hq with z | z;·exact Yq.kw.tk.tup (hqs q z)
    ·rw[wP.mp z];exact stu.tup VD
   ·rw[v4];exact R_ CK L U λc' hc'=>hmin c' ((isC.2 c').mpr hc')
 ·rintro σ X ⟨_,e8,e9,Qg,mk,s,Gi,Z,rfl,S,Vx,hpl,hpf,Vy,Fv,hqs,CK⟩;refine bU aa λHe se=>?_;refine kS N Z He ((G .refl).free Vw) (G (S.kw.st se)) (se _ _ Vy) (λq hq=>se.tup (hqs q hq)) ?_;have:=CK (some []) (by rw[List.drop_length]; exact .nil);simpa using this
end
noncomputable def r8 (x y:Str)(h:Nat)(c:List Int):Prop:=∀i,i < h+1->o_ x ⟨#[y.cps.getD i 0]⟩ (c.getD i 0)
noncomputable def gz (ts:zzB)(h:Nat)(l c:List Int):Prop:=(∀i,i < h+1->[dX l i,dX c i,l.getD i 0,c.getD i 0]∈ts)/\[l.getD h 0,c.getD h 0,-1,-1]∈ts
noncomputable def m7 (h:Nat):List Int:=replicate (h+1) (-1)
section
variable {x y:Str}{ts:zzB}{h:Nat}{S:List Int->Prop}{c prev:List Int}{r:List Str}
theorem Mx (b:y.cps.size=h+1)(q:Str->Nat->Prop):(∀i w,(jP y)[i]?=some w->q w i)↔∀i,i < h+1->q ⟨#[y.cps.getD i 0]⟩ i:=by
 constructor
 ·intro z i a;exact z i _ (xO (by ext))
 ·intro z i w e;have a:=(q0.mp e).1;rw[uJ,b] at a;rw[xO (by ext)] at e;cases e;exact z i a
theorem Gh (g:y.cps.size=h+1):r6 S x ts (jP y) h c↔c.length=h+1/\r8 x y h c/\∃l,S l/\gz ts h l c:=by
 constructor
 ·rintro⟨l,e,f,b,d⟩;have b:=(Mx g _).mp b;exact⟨f,λi a=>(b i a).1,l,e,λi a=>(b i a).2,d⟩
 ·rintro⟨f,b,l,e,d,j⟩;exact⟨l,e,f,(Mx g _).mpr λi a=>⟨b i a,d i a⟩,j⟩
theorem Sb (b:∀a∈ts,fk m a):gz (ts.map q_) h l c↔gz ts h c l:=by unfold gz;simp only [R8 b]
noncomputable def Cont (x:Str)(ts:zzB)(h:Nat)(c:List Int)(r:List Str):Prop:=∃l,wK x (ts.map q_) h r l/\gz ts h c l
theorem BF (d:∀a∈ts,fk m a)(b:y.cps.size=h+1):wK x (ts.map q_) h (y::r) c↔c.length=h+1/\r8 x y h c/\Cont x ts h c r:=by show r6 _ _ _ _ _ _↔_;rw[Gh b];unfold Cont;simp only [Sb d]
theorem iN (g:∀i∈ts,fk m i)(f:y.cps.size=h+1):mS x ts h prev y r c↔c.length=h+1/\r8 x y h c/\gz ts h prev c/\Cont x ts h c r:=by
 unfold mS;rw[Gh f,BF g f];constructor
 ·rintro⟨⟨a,b,l,rfl,e⟩,_,_,d⟩;exact⟨a,b,e,d⟩
 ·rintro⟨a,b,e,d⟩;exact⟨⟨a,b,prev,rfl,e⟩,a,b,d⟩
theorem uK:Cont x ts h c []↔gz ts h c (m7 h):=by
 constructor
 ·rintro⟨l,a,b⟩;have:=a;rw[this] at b;symm
 ·exact λz=>⟨_,rfl,z⟩
theorem rj (a:∀g∈ts,fk m g)(b:y.cps.size=h+1):Cont x ts h c (y::r)↔∃d,mS x ts h c y r d:=by
 constructor
 ·rintro⟨l,e,f⟩;obtain⟨i,j,k⟩:=(BF a b).mp e;exact⟨l,(iN a b).mpr (by ext)⟩
 ·rintro⟨d,e⟩;obtain⟨i,j,f,k⟩:=(iN a b).mp e;exact⟨d,(BF a b).mpr (by ext),f⟩
end
section
variable {x:Str}{ts:zzB}{h m:Nat}
theorem BG (b:∀k∈ts,fk m k):∀{ys:List Str} {a:List Int} {o:Option (zzB)},(∀y∈ys,y.cps.size=h+1)->Rl x ts h a ys o->o=none->∃y r,ys=y::r/\∀c,¬ mS x ts h a y r c| [],a,o,_,q,e=>by cases q;ext| y::r,a,o,f,q,e=>by cases q with| none z=>grind| @cons _ _ _ c n d t j=>
   have l:n=none:=by ext
   obtain⟨v,s,i,z⟩:=BG b (by ext) j l;subst i;obtain⟨_,_,_,g⟩:=(iN b (by ext)).mp d;obtain⟨u,p⟩:=(rj b (by ext)).mp g;ext
theorem Sd (q:Rl x ts h a ys (some l))(e:ys=y::r):∃c,mS x ts h a y r c:=by subst e;generalize b:some l=o at q;cases q with| none z=>ext| cons g d f=>grind
theorem lex_asymm (d:HT.lexLt a b=true):HT.lexLt b a=false:=by cases q:HT.lexLt b a with| false=>rfl| true=> have:=lex_trans d q;rw[lex_irrefl] at this;ext
theorem Sf (_:a.length=b.length)(f:HT.lexLt a b=false)(d:HT.lexLt b a=false):a=b:=by
 by_cases e:a=b;·symm
 ·rcases qH a b e with z | z;·ext
  ext
theorem AD (g:∀l∈ts,fk m l):∀{ys:List Str} {a:List Int} {o d:Option (zzB)},(∀y∈ys,y.cps.size=h+1)->Rl x ts h a ys o->Rl x ts h a ys d->o=d| [],a,o,d,_,q,b=>by cases q;cases b;rfl| y::r,a,o,d,f,q,b=>by have k:=f y zAc;cases q with
  | none z=> cases b with| none n=>rfl| cons i _ _=>ext
  | @cons _ _ _ c w i v s=> cases b with| none n=>ext| @cons _ _ _ u A j p t=> have e:=Sf (by rw[((iN g k).mp i).1,((iN g k).mp j).1]) (p c i) (v u j);subst e;rw[AD g (by grind) s t]
theorem Sg (g:∀J∈ts,fk m J){ks:zzB}(D:y.cps.size=h+1)(K:∀y∈r,y.cps.size=h+1)(C:∀c,c∈ks↔(c.length=h+1/\r8 x y h c/\gz ts h d c)/\(r=[]->gz ts h c (m7 h)))(E:ks.Pairwise λa b=>HT.lexLt a b=true){j:Nat} (n:ks[j]?=some c) (H:∀i f,i < j->ks[i]?=some f->Rl x ts h f r none) (A:Rl x ts h c r (some l)):Rl x ts h d (y::r) (some (c::l)):=by
 have u:=j1 n;obtain⟨⟨S,Q,F⟩,L⟩:=(C c).mp u;have O:mS x ts h d y r c:=by refine (iN g D).mpr ⟨S,Q,F,?_⟩;cases r with| nil=>exact uK.mpr (L rfl)| cons G P=>exact (rj g (by ext)).mpr (Sd A rfl)
 have R:∀f,mS x ts h d y r f->HT.lexLt f c=false:=λf o=>by
  obtain⟨U,T,W,w⟩:=(iN g D).mp o;have p:=(C f).mpr ⟨(by ext),λe=>by subst e; exact uK.mp w⟩;obtain⟨i,M,v⟩:=zA8.mp p;by_cases s:i < j
  ·exfalso;have N:=H i f s (by ext);obtain⟨G,P,I,z⟩:=BG g K N rfl;subst I;obtain⟨X,V⟩:=(rj g (by ext)).mp w;ext
  ·have t:=(q0.mp n).1;have k:=(q0.mp n).2;by_cases e:i=j
   ·subst e;rw[<-v,k];cases q:HT.lexLt c c with| false=>rfl| true=>rw[lex_asymm q] at q; cases q
   ·have:=List.pairwise_iff_getElem.mp E j i t M (by lia);rw[k,v] at this;exact lex_asymm this
 exact Rl.cons O R A
theorem VG (d:∀p∈ts,fk m p){ks:zzB}(q:y.cps.size=h+1)(g:∀y∈r,y.cps.size=h+1)(n:∀c,c∈ks↔(c.length=h+1/\r8 x y h c/\gz ts h a c)/\(r=[]->gz ts h c (m7 h)))(v:∀s∈ks,Rl x ts h s r none):Rl x ts h a (y::r) none:=by refine .none λc t=>?_;obtain⟨k,j,u,f⟩:=(iN d q).mp t;have b:c∈ks:=(n c).mpr ⟨⟨k,j,u⟩,λe=>by subst e; exact uK.mp f⟩;obtain⟨o,A,l,z⟩:=BG d g (v c b) rfl;subst l;obtain⟨i,w⟩:=(rj d (g o zAc)).mp f;exact z i w
end
section
variable {P:zAA}{w:zAE}{K:zzA}{mg:Str->Option Value}{base:Heap}{t:Ad}
theorem Gk:Passes (nS X.prog X.w) X (λ_ _ _=>False):=λ_ _ _ _ _ _ _ h=>by obtain⟨_,_,_,_,_,_,_,z⟩:=h;exact z.elim
noncomputable def lq (p:List Str)(k:Nat):Str:=join "" (p.map λr=>gy (r.cps.getD k 0))
inductive qy (K:zzA)(vs:List V)(H:Hp)(Q:VK)(E_:XK):Prop| mk (a:M1) (p:List Str) (k:Nat):vs=[.ref a,.int k]->ay K H a (p.map V.str)->Sm p->(∀r∈p,k < r.length)->(∀H',ah H H'->Q (.str (lq p k)) H')->qy K vs H Q E_
theorem Gm {r:Str}(h:k < r.length):g6 r.cps.toList (k:Int)=some (r.cps.getD k 0):=by refine bL ?_;have a:k < r.cps.size:=h;ext
theorem Gp (p:List Str)(k:Nat):((p.map λr=>gy (r.cps.getD k 0)).map (·.length)).sum=p.length:=by rw[zAa];induction p with| nil=>rfl| cons r b a=>rw[zAw,List.sum_cons,a,zBw]; show 1+_=_; lia
theorem Gq:aN ["picture","place"] ["picture","place"] (aE ku):=cI
theorem Gr (T:Txt K mg t):aL P w K mg base bg 1 t.rH t.kF ["picture","place"] (qy K):=by
 refine T.Ci.fn.ok Gq (λv H Q E h=>?_) (λu A c s H v Q E z h=>?_)
 ·obtain⟨a,p,k,rfl,_⟩:=h;rfl
 obtain⟨a,p,k,rfl,e,g,m,j⟩:=h;have y:=g.1;refine⟨_,(av (aK (mX K plainAttrs_str slot_str_join type_str_join (Dr K) nN (af (gg ["row","place"] [none,some 1] (dD K (pv 0)) (λ_ _ _ _ q=>⟨(bu 0 q),bT,(aI lU (pv 0) (pv 1) (λ_ _=>rfl))⟩)) ai)))),?_⟩;refine⟨rfl,_,rfl,a,rfl,⟨_,e⟩,?_⟩;refine oA (PV λr=>.str (gy (r.cps.getD k 0))) e (small (by grind)) (λi x n R l f B=>?_) λD n C f d=>?_
 ·obtain⟨r,rfl,b,_⟩:=xJ l;have o:=g.2 r b;exact fN (nV aa (λ_ _=>aa) (small (by lia)) (Gm (m r b))) ‹_›
 ·refine⟨"",D,p.map (λr:Str=>gy (r.cps.getD k 0)),rfl,rfl,ay.of (by rw[d,Bs,zAa]; rfl),?_,j _ f⟩;rw[Gp,yB];show p.length+p.length * 0<=16777216;lia
noncomputable def cols (p:List Str):List Str:=(range (dj p)).map (lq p)
inductive uL (K:zzA)(C:M1)(vs:List V)(H:Hp)(Q:VK)(E:XK):Prop| mk (a:M1) (p:List Str):vs=[.ref a]->ay K H a (p.map V.str)->Sm p->(d9 p=true->∀(r:M1) (H':Hp),H r=none->ah H H'->H' r=some (.lst ((cols p).map V.str))->Q (.ref r) H')->((d9 p=false->∀H',ah H H'->E (.ref C) none H'))->uL K C vs H Q E
theorem Dj:aN ["picture"] ["picture"] (aE jy):=cI
theorem Dk (T:Txt K mg t):aL P w K mg base (nS P w) 4 t.pX t.jF ["picture"] (uL K t.dI):=by
 have b:aL P w K mg base (nS P w) 3 t.jU t.f7 ["picture"] (xK K t.dI):=qU T;have d:aL P w K mg base bg 1 t.rH t.kF ["picture","place"] (qy K):=Gr T;refine T.z7.fn.Pe Dj (λO H Q E h=>?_) (λJ A g s H O Q E x h=>?_)
 ·obtain⟨a,p,rfl,_⟩:=h;rfl
 obtain⟨a,p,rfl,m,f,k,k2⟩:=h;have S:=f.1;refine⟨_,(aj (cU (cD T.qd b x (A9 vL rfl rfl rfl (λ_ _ _ z=>z)) (af (pv 0) ai))) (av (aK (gg ["place","picture"] [none,some 0] (bP rfl T.cH (af (aH (dB K) (by rfl) T.cg zA1 (af (aI (cO K) (pv 0) ao (λ_ _=>rfl)) ai)) ai)) (λ_ _ _ _ I=>⟨(bu 0 I),bT,(cD T.Ci d x aM (af (pv 1) (af (pv 0) ai)))⟩))))),?_⟩;refine⟨_,rfl,a,p,rfl,m,f,λc V q=>?_,‹_›⟩;have k:=k c;obtain⟨j,_,_,_,y,_⟩:=lM c;cases p with| nil=>exact absurd rfl j| cons n v=>
  have N:=f.2 n zAc;refine cV (pO (aA (fZ (K:=K) (aA (f_ (K:=K) aa (λ_ _=>az) (q.seq m) (yJ _ _))) (small (by lia)))) (by simp) (by lia) λZ B=>?_);have e:=q.trans B;refine eS (λi=>.str (lq (n::v) i)) (small (by lia)) (λi u R W l U=>?_) λD u F l o=>?_
  ·have C:=by symm
   refine fN (eB (au aa λ_ _=>aA aa) λY X L G=>⟨a,n::v,i,by simp,((e.trans l).trans L).seq m,f,λr M=>?_,G⟩) ‹_›;grind
  ·refine k D u (e.free F) (e.trans l) ?_;rw[o];unfold cols;ext
theorem IW (c:d9 p=true):cols p≠[]/\(cols p).length<=12/\∀y∈cols p,y.cps.size=p.length/\bM y=true:=by
 obtain⟨i,m,l,o,d,b⟩:=lM c;refine⟨λz=>?_,by unfold cols; ext,λy h=>?_⟩
 ·have:=zAz length z;unfold cols at this;ext
 ·unfold cols at h;obtain⟨k,n,rfl⟩:=xL.mp h;have j:k < dj p:=by ext
  have e:(lq p k).cps.toList=p.map λr=>r.cps.getD k 0:=by have:=qm (p.map λr=>r.cps.getD k 0);rw[zAa] at this;exact this
  refine⟨by rw[<-zBp,e,yB],?_⟩;unfold bM;rw[e,zBm,zAj];intro r g;have f:=b r g;unfold bM at f;rw[zAj] at f;refine f _ ?_;have a:=by have:=d r g; show k < r.length; ext
  show r.cps.getD k 0∈r.cps.toList;rw[zCh,zAn,zA5 a];exact Array.getElem_mem a
noncomputable def rowOf (cs:zzB)(i:Nat):List Int:=cs.map λc=>c.getD i 0
inductive ze (K:zzA)(vs:List V)(H:Hp)(Q:VK)(E_:XK):Prop| mk (F:M1) (qs:zzD) (i:Nat):vs=[.ref F,.int (i:Int)]->ay K H F (qs.map rv)->(∀q∈qs,aG K H q.1 (q.2.map V.int))->(∀q∈qs,i < q.2.length)->qs.length<=1000->(∀Z H',H Z=none->ah H H'->H' Z=some (.lst ((rowOf (qs.map (·.2)) i).map V.int))->Q (.ref Z) H')->ze K vs H Q E_
theorem My:aN ["columns","row"] ["columns","row"] (aE pV):=cI
theorem Mz (T:Txt K mg t):aL P w K mg base bg 1 t.yS t.p_ ["columns","row"] (ze K):=by
 refine T.LL.fn.ok My (λx H Q E h=>?_) (λL A j s H x Q E M h=>?_)
 ·obtain⟨F,d,i,rfl,_⟩:=h;rfl
 obtain⟨F,d,i,rfl,I,f,z,r,u⟩:=h;refine⟨_,(av (aK (gg ["marks","row"] [none,some 1] (dD K (pv 0)) (λ_ _ _ _ J=>⟨(bu 0 J),bT,(aI (cQ K) (pv 0) (pv 1) (λ_ _=>rfl))⟩)))),?_⟩;refine cV (lW (K:=K) aa I λO m b=>?_);refine k_ (λk=>.int (((d.map (·.2)).getD k []).getD i 0)) b (small (by ext)) (λk v o R p n C=>?_) λD o G n l=>?_
 ·rw[v3] at p;obtain⟨q,g,rfl⟩:=wT.mp p;have a:=j1 g;have c:=z q a;have e:(d.map (·.2)).getD k []=q.2:=by ext
  rw[e] at C;exact fN (cG (K:=K) aa (λ_ _=>aa) ((m.trans n).tup (f q a)) (uD c)) ‹_›
 ·refine u D o (m.free G) (m.trans n) ?_;rw[l];congr 2;unfold rowOf;rw[zAa,zAa,yB];refine zCb (by grind) λk y N=>?_;have B:=by simpa using y
  simp [y2,B]
theorem tW {C:List (Option Nat)}{B:TE}{σ:L2.St}{b:Hp}{Q:M1->Hp->Prop}{lo:Int}{n A:Nat}(f:Nat->List Int)(hz:n<=PK)(F:∀(i:Nat) (H:Hp) (R:VK),i < n->ah b H->(∀Y k,H Y=none->ah H k->k Y=some (.lst ((f i).map V.int))->R (.ref Y) k)->B ((dS C σ).set A (some (.int (lo+i)))) H R)(G:∀(D:M1) (a:zzD) (H:Hp),b D=none->ah b H->H D=some (.lst (a.map rv))->a.map (·.2)=(range n).map f->(∀r∈a,b r.1=none/\r.1≠D/\H r.1=some (.lst (r.2.map V.int)))->Q D H):cL (qF lo n) C (cz A) ly B σ b Q:=by
 intro D l;refine⟨λi m u H=>m=n - i/\i<=n/\ah b H/\∃a:zzD,u=a.map rv/\a.length=i/\a.map (·.2)=(range i).map f/\∀r∈a,b r.1=none/\r.1≠D/\H r.1=some (.lst (r.2.map V.int)),⟨n,by simp,zAb _,ah.new l _,[],rfl,rfl,rfl,by simp⟩,?_⟩;rintro i m u H ⟨rfl,O,j,a,p,L,v,g⟩ d;by_cases c:i < n
 ·refine .inr ⟨c,λx S y=>?_⟩;obtain⟨e,y⟩:=y;subst e; subst y;refine F i _ _ c j λY k s q o=>?_;have h:Y≠D:=λz=>by rw[z,d] at s; cases s
  refine⟨q _ _ d,by rw[p,yB]; lia,n - (i+1),by grind,rfl,c,(j.trans q).put l _,a++[(Y,f i)],by rw[p,v4]; rfl,by simp [L],by rw[v4,v,zA2,v4]; rfl,λr I=>?_⟩;rcases w8.mp I with z | z
  ·obtain⟨J,E,M⟩:=g r z;exact⟨J,E,by rw[aD E]; exact q _ _ M⟩
  ·rw[wP.mp z];exact⟨j.free s,h,by rw[aD h]; exact o⟩
 ·have e:i=n:=by lia
  subst e;exact .inl ⟨y6 _,G D a H l j (by rw[d,p]) v g⟩
structure WV (H0 H:Hp)(F:M1)(rs:zzD):Prop where
 at_:H F=some (.lst (rs.map rv))
 newF:H0 F=none
 rows:∀p∈rs,H0 p.1=none/\p.1≠F/\H p.1=some (.lst (p.2.map V.int))
inductive IX (K:zzA)(vs:List V)(H:Hp)(Q:VK)(E:XK):Prop| mk (sys T b:M1) (x:Str) (ps:zzD) (p:List Str):vs=[.ref sys,.ref b]->ri K H sys T x ps->Fx x (ps.map (·.2))->kr x (ps.map (·.2))=true->x.length<=5->ps.length<=1000->ay K H b (p.map V.str)->Sm p->d9 p=true->Qf x.length (p.length - 1) (cols p).length<=13000000->(∀H',ah H H'->Rl x (ps.map (·.2)) (p.length - 1) (replicate p.length (-1)) (cols p) none->Q .bq H')->(∀(F:M1) (rs:zzD) (cs:zzB) (H':Hp),ah H H'->WV H H' F rs->Rl x (ps.map (·.2)) (p.length - 1) (replicate p.length (-1)) (cols p) (some cs)->rs.map (·.2)=(range p.length).map (rowOf cs)->Q (.ref F) H')->IX K vs H Q E
theorem MA (q:Rl x ts h a ys o):∀cs,o=some cs->cs.length=ys.length/\∀c∈cs,c.length=h+1:=by induction q with| nil=> simp| none _=> simp| cons d n m f=>
  intro cs e;obtain⟨l,i,g⟩:=wT.mp e;obtain⟨j,k⟩:=f l i;subst g;refine⟨by ext,λc b=>?_⟩;rcases u1.mp b with rfl | b
  ·obtain⟨_,_,p,_⟩:=d.1;symm
  ext
theorem MB (h:kr x ts=true):∀t∈ts,fk x.length t:=λt a=>by unfold kr at h;simp only [zAp,zAu,zAj] at h;have:=h.2.1 t a;unfold lg at this;simp only [zAp,zAu,zAj] at this;symm
theorem ri.at_ (h:ri K H a T x ps):uE K H a x (ps.map (·.2)):=by refine⟨T,h.1,?_⟩;unfold Rep;exact⟨T,_,rfl,h.2.1,vR ps h.2.2⟩
theorem BH:aN ["system","picture","columns","found"] ["system","picture"] (aE vY):=cI
theorem Sh (T:Txt K mg t):aL P w K mg base bg 35 t.LK t.z4 ["system","picture"] (IX K):=by
 have c:aL P w K mg base (nS P w) 3 t.kX t.gC ["system"] (uF K t.fY):=tL T;have d:aL P w K mg base (nS P w) 4 t.pX t.jF ["picture"] (uL K t.dI):=Dk T;have a:aL P w K mg base bg 34 t.mw t.gS ["system","columns"] (wL K):=zd T;have e:aL P w K mg base bg 1 t.yS t.p_ ["columns","row"] (ze K):=Mz T;refine T.lets.fn.ok BH (λvs H Q E h=>?_) (λcdv A outer s H vs Q E k h=>?_)
 ·obtain⟨m,TT,b,x,ps,p,rfl,_⟩:=h;rfl
 obtain⟨m,TT,b,x,ps,p,rfl,hS,hM,hB,hx,B,hb,X,hp,f,kN,kS⟩:=h;refine⟨_,(aj (cU (cD T.rP c k Gk (af (pv 0) ai))) (aj (bh 2 BH.nd (cD T.z7 d k Gk (af (pv 1) ai))) (aj (bh 3 BH.nd (cD T.uY a k aM (af (pv 0) (af (pv 2) ai)))) (aj (bG (iU (D4 (pv 3))) (av (aK zw)) aW) (av (aK (gg ["row","found"] [none,some 3] (bP rfl T.cH (af (aH (dB K) (by rfl) T.cg zA1 (af (pv 1) ai)) ai)) (λ_ _ _ _ nd=>⟨(bu 0 nd),bT,(cD T.LL e k aM (af (pv 1) (af (pv 0) ai)))⟩)))))))),?_⟩;refine hold λPu N=>?_;obtain⟨hne,h4,h12,h1,yV,ac0⟩:=lM hp;obtain⟨cn,cl,cy⟩:=IW hp;obtain⟨h,hh⟩:∃h,p.length=h+1:=⟨p.length - 1,by have:=List.length_pos_iff.mpr hne; lia⟩;refine N ?_;have W:p.length - 1=h:=by ext
 rw[W] at f kN kS;refine yL (iH (aA aa) λH1 s1=>⟨m,x,_,rfl,(hS.same s1).at_,hM,λ_ H2 s2=>?_,λz=>by (rw[hB] at z; cases z)⟩);have F:=s1.trans s2;refine aP (iH (aA aa) λH3 s3=>⟨b,p,rfl,(F.trans s3).seq hb,X,λ_ C H4 hC s4 U=>?_,λz=>by (rw[hp] at z; cases z)⟩);have l:=F.trans (s3.trans s4);refine aP (iH (au aa λ_ _=>aA aa) λH5 J=>⟨m,TT,C,x,ps,h,cols p,rfl,hS.same (l.trans J),λq o=>MB hB q.2 (by grind),hx,B,J _ _ U,cn,λy hy=>by ext,cl,by lia,f,λH6 s6 n=>?_,λZ L H6 hZ s6 S O n=>?_⟩)
 ·refine eG (b:=true) (di (dY (sU aa)) (by rfl)) (λ_ H7 u=>?_) λz=>absurd z (by decide);exact bU az λH8 j=>kN H8 (l.trans (J.trans (s6.trans (u.trans j)))) (by rw[hh]; symm)
 ·refine eG (b:=false) (di (dY (sU aa)) (by rfl)) (λz=>absurd z (by decide)) λ_ H7 u=>?_;have g:=l.trans (J.trans (s6.trans u));obtain⟨ql,v⟩:=MA n _ rfl;rw[yB] at ql;have V:∀q∈L,q.2.length=h+1:=λq o=>v _ (by grind);refine cV (pO (jj:=(p.length:Int)) (aA (aR (f6 (K:=K) (aA aa) (g.seq hb)) (by rw[yB]))) (by simp) (by lia) λH8 j=>?_);rw[zA3];refine tW (λi=>rowOf (L.map (·.2)) i) (by rw[u4]; lia) (λi H' R hi I kc=>?_) λD rs H' hD I v9 em G=>?_;·refine iH (au aa λ_ _=>aA aa) λH9 M=>⟨Z,L,i,by simp,ay.of ((u.trans (j.trans (I.trans M))) _ _ S),λq o=>(u.trans (j.trans (I.trans M))).tup (O q o),λq o=>by (rw[V q o]; ext),by rw[ql]; lia,λY Ha hY sa' hYl=>kc Y Ha (M.free hY) (M.trans sa') hYl⟩
  ·exact kS D rs (L.map (·.2)) H' (g.trans (j.trans I)) ⟨v9,(g.trans j).free hD,λr k=>⟨(g.trans j).free (G r k).1,(G r k).2⟩⟩ (by rw[hh]; exact n) em
end
noncomputable def DH (x:Str)(ts:zzB)(h:Nat):List Int->List Str->zzB->Prop| _,[],[]=>True| a,y::r,c::b=>c.length=h+1/\r8 x y h c/\gz ts h a c/\(r=[]->gz ts h c (m7 h))/\DH x ts h c r b| _,_,_=>False
section
variable {x:Str}{ts:zzB}{h m:Nat}
theorem IY (g:∀k∈ts,fk m k):∀{ys:List Str} {a:List Int} {cs:zzB},(∀y∈ys,y.cps.size=h+1)->Rl x ts h a ys (some cs)->DH x ts h a ys cs| [],a,cs,_,q=>by cases q;exact True.intro| y::r,a,cs,b,q=>by generalize f:some cs=o at q;cases q with| none z=>cases f| @cons _ _ _ c v p w n=> cases v with| none=>cases f| some l=> cases f;obtain⟨t,s,u,i⟩:=(iN g (b y zAc)).mp p;exact⟨t,s,u,λe=>by subst e; exact uK.mp i,IY g (λj d=>b j (zB1 _ d)) n⟩
noncomputable def Gu (h:Nat)(cs:zzB)(k:Nat):List Int:=if k=0 then m7 h else (cs++[m7 h]).getD (k - 1) []
theorem IZ:∀{ys:List Str} {a:List Int} {cs:zzB},ys≠[]->DH x ts h a ys cs->cs.length=ys.length/\(∀j y,ys[j]?=some y->(cs.getD j []).length=h+1/\r8 x y h (cs.getD j []))/\∀k,k<=cs.length->gz ts h (if k=0 then a else cs.getD (k - 1) []) ((cs++[m7 h]).getD k [])| [],a,cs,d,_=>absurd rfl d| y::r,a,[],_,q=>q.elim| y::r,a,c::cs,_,q=>by obtain⟨l,f,g,n,i⟩:=q;cases r with
  | nil=> cases cs with| cons _ _=>exact i.elim| nil=>
    refine⟨rfl,λj t e=>?_,λk b=>?_⟩;·match j,e with| 0,e=>cases e; exact⟨l,f⟩
    ·match k,b with| 0,_=>exact g| 1,_=>exact n rfl
  | cons t u=>
   obtain⟨p,s,o⟩:=IZ (by simp) i;refine⟨by simp [p],λj z e=>?_,λk b=>?_⟩;·match j,e with| 0,e=>cases e; exact⟨l,f⟩| j+1,e=>exact s j z (by simpa using e)
   ·match k,b with| 0,_=>exact g| k+1,b=> have:=o k (by simpa using b);cases k with| zero=>exact this| succ k=>exact this
end
section
variable {x:Str}{ts:zzB}{h m:Nat}{cs:zzB}
noncomputable def zBG (h:Nat)(cs:zzB):zzB:=(range (h+1)).map (rowOf cs)
theorem AE:cJ (zBG h cs)=cs.length:=by unfold cJ zBG;rw[List.range_succ_eq_map];show (rowOf cs 0).length=_;unfold rowOf;rw[yB]
theorem pe:(zBG h cs).length=h+1:=by unfold zBG; simp
theorem Gx (a:j < cs.length):(rowOf cs i).getD j 0=(cs.getD j []).getD i 0:=by unfold rowOf;ext
theorem qz (a:i < h+1):(m7 h).getD i 0=-1:=by unfold m7;ext
theorem Ke (p:y < h+3)(o:k < cs.length+2):((aT (zBG h cs)).getD y []).getD k 0=if y=0\/y=h+2 then -1 else (Gu h cs k).getD (y - 1) 0:=by
 have b:(iw (zBG h cs)).getD k 0=-1:=by unfold iw;rw[AE];ext
 by_cases n:y=0
 ·subst n;symm
 by_cases q:y=h+2
 ·have e:(aT (zBG h cs)).getD (h+2) []=iw (zBG h cs):=by unfold aT;simp [pe]
  lia
 rw[xI (by ext)];obtain⟨i,rfl⟩:∃i,y=i+1:=⟨y - 1,by lia⟩;have c:i < h+1:=by lia
 have e:(aT (zBG h cs)).getD (i+1) []=[-1]++rowOf cs i++[-1]:=by
  unfold aT;rw[y2,zAg (by simp [pe]; symm)];have:([iw (zBG h cs)]++(zBG h cs).map λr=>[-1]++r++[-1])[i+1]?=some ([-1]++rowOf cs i++[-1]):=by
   rw[zAs (by simp)];have f:i+1 - [iw (zBG h cs)].length=i:=by rfl
   rw[f,v3];unfold zBG;rw[v3,List.getElem?_range c];rfl
  rw[this];rfl
 rw[e,zA7];have a:(rowOf cs i).length=cs.length:=by unfold rowOf; simp
 unfold Gu;cases k with| zero=> rw[v6 rfl,qz c];symm| succ j=>
  rw[xI (by lia),zA7];show ((rowOf cs i++[-1]).getD j 0)=_;by_cases d:j < cs.length;·rw[y2,zAg (by ext),<-y2,Gx d,y2 (l:=cs++[m7 h]),zAg d,y2 (l:=cs)]
  ·have g:j=cs.length:=by lia
   subst g;rw[y2,zAs (by ext),a,y2 (l:=cs++[m7 h]),zAs (y6 _),zCs];show (-1:Int)=(m7 h).getD i 0;rw[qz c]
theorem Sk (q:∀k,k<=cs.length->gz ts h (Gu h cs k) (Gu h cs (k+1))):∀t∈gx (zBG h cs),t∈ts:=λt e=>by
 obtain⟨y,j,g⟩:=List.mem_flatMap.mp e;obtain⟨k,i,rfl⟩:=xL.mp g;have l:=by have:=zAk.mp j;rw[pe] at this;omega
 have d:=by have:=zAk.mp i;rw[AE] at this;symm
 obtain⟨q1,b⟩:=q k (by lia);unfold d8;rw[Ke (by lia) (by lia),Ke (by lia) (by ext),Ke (by ext) (by lia),Ke (by ext) (by ext)];by_cases c:y < h+1
 ·have:=q1 y c;rw[xI (show ¬ (y+1=0\/y+1=h+2) by lia),xI (show ¬ (y+1=0\/y+1=h+2) by lia)];unfold dX at this;by_cases a:y=0
  ·subst a;exact this
  ·rw[xI (show ¬ (y=0\/y=h+2) by lia),xI (show ¬ (y=0\/y=h+2) by lia)];rw[xI a,xI a] at this;exact this
 ·have f:y=h+1:=by lia
  subst f;rw[xI (show ¬ (h+1=0\/h+1=h+2) by simp),xI (show ¬ (h+1=0\/h+1=h+2) by simp),v6 (.inr rfl),v6 (.inr rfl)];exact b
theorem I0 (a:j < dj p):(cols p)[j]?=some (lq p j):=by unfold cols;ext
theorem OD (a:i < p.length):(lq p j).cps.getD i 0=(p.getD i ⟨#[]⟩).cps.getD j 0:=by
 have e:(lq p j).cps.toList=p.map λr=>r.cps.getD j 0:=by have:=qm (p.map λr=>r.cps.getD j 0);rw[zAa] at this;symm
 rw[zAn,<-zBt,e,v3,y2,y8 a];rfl
theorem Sl (o:d9 p=true)(w:p.length=h+1)(q:DH x ts h (m7 h) (cols p) cs):qV x ts p (zBG h cs)=true:=by
 obtain⟨z,O,u,M,b,s⟩:=lM o;obtain⟨H,L,N⟩:=IW o;obtain⟨A,v,I⟩:=IZ H q;have f:(cols p).length=dj p:=by unfold cols; simp
 unfold qV;rw[zAp,zAj];refine⟨?_,λt B=>j2 (Sk (λk G=>?_) t B)⟩
 ·unfold qt;rw[zAp,zAu,zAj];refine⟨by rw[pe,w],λi E=>?_⟩;have a:=zAk.mp E;have D:(zBG h cs).getD i []=rowOf cs i:=by unfold zBG;rw[y2,v3,List.getElem?_range (by ext)];rfl
  rw[D];have n:(p.getD i ⟨#[]⟩).length=dj p:=b _ (getD_mem a);unfold iA;rw[zAp,zAu,zAj];have l:(rowOf cs i).length=cs.length:=by unfold rowOf; simp
  refine⟨by rw[l,A,f]; exact n.symm,λj y=>?_⟩;have d:j < cs.length:=by have:=zAk.mp y; ext
  have g:j < dj p:=by ext
  obtain⟨_,K⟩:=v j _ (I0 g);obtain⟨F,C,r⟩:=K i (by ext);rw[Gx d];rw[OD a] at r;unfold qq;rw[zAp,zAp,zAu,zAu,zAu];refine⟨⟨F,C⟩,?_⟩;have J:x.cps.getD ((cs.getD j []).getD i 0).toNat 0=(p.getD i ⟨#[]⟩).cps.getD j 0:=by simpa using r
  rw[J];rfl
 ·have:=I k G;unfold Gu;by_cases c:k=0
  ·rw[v6 c] at this ⊢;exact this
  ·have e:(cs++[m7 h]).getD (k - 1) []=cs.getD (k - 1) []:=by rw[y2,zAg (by lia),y2]
   rw[e];exact this
end
section
variable {P:zAA}{w:zAE}{K:zzA}{mg:Str->Option Value}{base:Heap}{t:Ad}
inductive wM (K:zzA)(vs:List V)(H:Hp)(Q:VK)(E_:XK):Prop| mk (a:M1) (ns:List Int) (k:Int) (hg wd:Nat) (ls:Str):vs=[.ref a,.int k,.int (hg:Int),.int (wd:Int),.str ls]->ay K H a (ns.map V.int)->ns.length<=63->1<=ls.cps.size->ls.cps.size<=100->hg<=20->wd<=20->(∀(Z:M1) (p:List Str) (H':Hp),H Z=none->ah H H'->H' Z=some (.lst (p.map V.str))->p.length=hg->(∀r∈p,r.cps.size=wd/\∀c∈r.cps.toList,c∈ls.cps.toList)->Q (.ref Z) H')->wM K vs H Q E_
theorem mT:aN ["_law_script","_law_k","_law_high","_law_wide","_law_letters","_law_found","_law_y"] ["_law_script","_law_k","_law_high","_law_wide","_law_letters"] (aE g_):=cI
theorem AF (T:Txt K mg t):aL P w K mg base bg 3 t.nC t.ig ["_law_script","_law_k","_law_high","_law_wide","_law_letters"] (wM K):=by
 have b:aL P w K mg base bg 2 t.mz t.iJ ["_law_script","_law_k"] (tH K):=rR T;refine T._law_picture.fn.ok mT (λvs H Q E h=>?_) (λcdv A N s H vs Q E U h=>?_)
 ·obtain⟨a,C,k,L,g,d,rfl,_⟩:=h;rfl
 obtain⟨a,C,k,L,g,d,rfl,hS,hl,ac1,ac2,UN,PN,kk⟩:=h;refine⟨_,(aj (bh 5 mT.nd (bH ai)) (aj (cS zAl rfl (bP rfl T.cH (af (pv 2) ai)) (bu 6 mT.nd) (av (cU (mX K zAo zAq zAr dh (pv 5) (af (mX K plainAttrs_str slot_str_join type_str_join (Dr K) nN (af (gg ["_law_x","_law_letters","_law_script","_law_k","_law_y"] [none,some 4,some 0,some 1,some 6] (bP rfl T.cH (af (pv 3) ai)) (λ_ _ _ _ nd=>⟨(bu 0 nd),bT,(aI lU (pv 1) (aC eK (aC pA (cD T._law_mix b U aM (af (pv 2) (af (aC aU (aC aU (pv 3) (aC lT ao (pv 4))) (pv 0)) ai))) ao) (aH (dB K) (by rfl) T.cg zA1 (af (pv 1) ai))) (λ_ _=>rfl))⟩)) ai)) ai))))) (av (aK (pv 5))))),?_⟩;refine aP ⟨(by show 0<=PK; decide),λF O=>?_⟩;refine lJ (n:=L) (aA aa) (by lia) (λi σ G=>∃(X:Option V) (p:List Str),σ=[some (.ref a),some (.int k),some (.int (L:Int)),some (.int (g:Int)),some (.str d),some (.ref F),X]/\ah H G/\G F=some (.lst (p.map V.str))/\p.length=i/\∀r∈p,r.cps.size=g/\∀c∈r.cps.toList,c∈d.cps.toList) (λG q=>⟨none,[],rfl,(ah.new O _).trans q,q _ _ aq,rfl,by simp⟩) (λi σ G hi M=>?_) fun σ G M=>?_
 ·obtain⟨X,p,rfl,q,l,o,m⟩:=M;let f:Nat->Nat:=λj=>d.cps.getD (mix C (k+6 * (i:Int)+(0+(j:Int))) / 8 % (d.cps.size:Int)).toNat 0;have I:∀j,0<=mix C (k+6 * (i:Int)+(0+(j:Int))) / 8 % (d.cps.size:Int)/\mix C (k+6 * (i:Int)+(0+(j:Int))) / 8 % (d.cps.size:Int) < d.cps.size:=λj=>⟨zB7 _ (by lia),zCr _ (by lia)⟩;refine jt ((aa (v:=.ref F) (by rfl)) _ λH2 u=>⟨.inl ⟨rfl,_,ay.of (u _ _ l)⟩,ee ⟨rfl,pO (aA aa) (by simp) (by lia) λH3 s3=>?_⟩⟩);rw[zA3];have x:=q.trans (u.trans s3);refine eS (λj=>.str (gy (f j))) (small (by lia)) (λj H4 R hj J k4=>?_) λD H4 hD J W=>?_
  ·have Z:=(I j).1;have h1:=(I j).2;refine fN (nV aa (λH5 S=>bA (bA (i8 hS hl (x.trans (J.trans S)) (au aa λ_ _=>aA (aO (aO aa λ_ _=>bA az (λ_ _=>aa) (.inl ⟨by decide,by decide⟩)) λ_ _=>aa))) (λ_ _=>az) ⟨by decide,by decide⟩) (λ_ _=>fZ (K:=K) (aA aa) (small (by show d.cps.size<=1000; lia))) (by show (0:Int) < (d.cps.size:Int); lia)) (small (by show d.cps.size<=1000; lia)) (FD Z h1)) λH5 S=>k4 H5 S
  ·refine⟨"",D,(range g).map (λj=>gy (f j)),rfl,rfl,ay.of (by rw[W,zAa]; rfl),?_,?_⟩
   ·have e:(range g).map (λj=>gy (f j))=((range g).map f).map gy:=by rw[zAa]; rfl
    rw[e,yU];simp;show g+g * 0<=16777216;lia
   ·have Y:=(u.trans (s3.trans J)) _ _ l;refine⟨F,_,_,rfl,rfl,Y,by rw[yB,u4]; lia,?_⟩;have y:(join "" ((range g).map λj=>gy (f j))).cps.toList=(range g).map f:=by have:=qm ((range g).map f);rw[zAa] at this;exact this
    refine⟨_,p++[join "" ((range g).map λj=>gy (f j))],rfl,(x.trans J).put O _,by rw[aq,v4]; rfl,by simp [o],λr U=>?_⟩;rcases w8.mp U with z | z;·exact m r z
    ·rw[wP.mp z];refine⟨by rw[<-zBp,y]; simp,λc hc=>?_⟩;rw[y] at hc;obtain⟨j,hj,rfl⟩:=xL.mp hc;have h1:=(I j).2;have Z:=(I j).1;show d.cps.getD _ 0∈d.cps.toList;have B:(mix C (k+6 * (i:Int)+(0+(j:Int))) / 8 % (d.cps.size:Int)).toNat < d.cps.size:=by ext
     rw[zCh,zAn,zA5 B];exact Array.getElem_mem B
 ·obtain⟨X,p,rfl,q,l,o,m⟩:=M;exact bU aa λH2 u=>kk F p H2 O (q.trans u) (u _ _ l) o m
noncomputable def iO (ts:zzB)(c:List Int):Bool:=(range (c.length+1)).all λk=>decide ([dX c k,-1,(c++[-1]).getD k 0,-1]∈ts)
theorem OE (f:c.length=h+1):iO ts c=true↔gz ts h c (m7 h):=by
 have a:∀i,i < h+2->dX (m7 h) i=-1:=λi d=>by
  unfold dX;split;·rfl
  ·exact qz (by lia)
 unfold iO gz;rw[zAj];constructor
 ·intro z;refine⟨λi d=>?_,?_⟩
  ·have:=zAi (z i (zAk.mpr (by lia)));rw[y2,zAg (by ext),<-y2] at this;rw[a i (by lia),qz d];exact this
  ·have:=zAi (z (h+1) (zAk.mpr (by ext)));rw[y2,zAs (by ext),f,zCs] at this;unfold dX at this;rw[xI (by lia),zA7] at this;rw[qz (by simp)];exact this
 ·rintro⟨m,b⟩ k j;have g:k < h+2:=by have:=zAk.mp j; ext
  refine j2 ?_;by_cases e:k < h+1
  ·have:=m k e;rw[a k ‹_›,qz e] at this;rw[y2,zAg (by ext),<-y2];exact this
  ·have l:k=h+1:=by lia
   subst l;rw[y2,zAs (by ext),f,zCs];unfold dX;rw[xI (by lia),zA7];rw[qz (by simp)] at b;exact b
end
end fX
namespace L2
open PySem PySem.Spec PyProof.Rows
theorem OF {prog:zAA}{w:zAE}{A:zAI}{E:zzE}{s:VV}{t b:M1}{ws:List Value}{Q:zzE}(p:zDX s.heap t ([]:List Value).toArray)(u:zDX s.heap b ws.toArray)(h:Q (.ref b) s):zAC (zAD prog w) A (zAV .Add (.ref t) (.ref b)) Q E s:=by obtain⟨⟨r,q,i,v⟩,l,m,n,o⟩:=id p;obtain⟨⟨j,c,data2,e⟩,f,g,k,d⟩:=id u;subst m o g d;exact concat_meets ⟨_,l,rfl⟩ ⟨_,f,rfl⟩ zDI seq_tuple_add PySem.F.slot_tuple_add PySem.F.entry_tuple_add (PySem.F.args_tuple_add_2 _ _) (tuple_addW0 t b ([]).toArray ws.toArray n k q c v e (by rfl)) (by ext)
noncomputable def Qj (K:zzA):R2:=λx y H Q=>∃a b c d,x=.ref a/\y=.ref b/\aG K H a c/\aG K H b d/\c.length+d.length<=PK/\(c=[]->Q (.ref b) H)/\(d=[]->Q (.ref a) H)/\∀p,H p=none->Q (.ref p) (upd H p (.tup (c++d)))
theorem AG (K:zzA)(q:X.K=K:=by rfl):dU X (zAV .Add) (Qj K):=by
 subst q;intro c s σ H x y v u Q I i j h;obtain⟨a,b,l,p,rfl,rfl,e,k,o,n,t,w⟩:=h;by_cases f:l=[]
 ·subst f;cases i;cases j;obtain⟨m,z,A,_⟩:=I.tuple e;obtain⟨g,B,r,_⟩:=I.tuple k;cases z;exact OF A r ⟨.ref b,H,I,rfl,n rfl⟩
 ·exact Q6 c s σ H _ _ v u Q I i j ⟨a,b,l,p,rfl,rfl,e,k,f,o,t,λ_=>w⟩
noncomputable def Gw (K:zzA)(c:TE)(σ:St)(H:Hp)(xs:List V):Prop:=∀R:VK,(∀p b,ah H b->aG K b p xs->R (.ref p) b)->c σ H R
section
variable {K:zzA}{te ta tb tl th:TE}{tt:TA}{σ:St}{H:Hp}{xs ys:List V}
theorem Qk (h:Gw K te σ H xs)(e:xs=ys):Gw K te σ H ys:=e ▸ h
theorem Gy (h:Gv te σ H (.ref a))(c:aG K H a xs):Gw K te σ H xs:=λR r=>h _ λb s=>r a b s (s.tup c)
theorem mU (h:Ga tt σ H xs)(hz:xs.length<=PK):Gw K (vF tt) σ H xs:=λR r=>h _ λb s=>⟨hz,λp a=>r p _ (s.trans (ah.new a _)) (aG.of aq)⟩
theorem wN (j:Gw K ta σ H xs)(h:∀H',ah H H'->Gw K tb σ H' ys)(hz:xs.length+ys.length<=PK):Gw K (cT (Qj K) ta tb) σ H (xs++ys):= λR r=>j _ λa i d f=>h i d _ λb g c l=>⟨a,b,xs,ys,rfl,rfl,c.tup f,l,hz,λe=>r b g (d.trans c) (by rw[e]; symm), λe=>r a g (d.trans c) (by rw[e,zCu]; exact c.tup f),λq k=>r q _ ((d.trans c).trans (ah.new k _)) (aG.of aq)⟩
theorem WW (n:Gw K ta σ H xs)(k:∀H',ah H H'->Gv tl σ H' (.int i))(o:∀H',ah H H'->Gv th σ H' (.int j))(f:¬ (HT.dW xs.length 0 (some i)=0/\HT.dW xs.length xs.length (some j)=xs.length)):Gw K (Pb (JI K) ta (zG tl) (zG th)) σ H (ki xs (some i) (some j)):= λR r=>n _ λa l c g=>k l c _ λm b=>⟨i,rfl,o m (c.trans b) _ λp d=>⟨j,rfl,a,xs,rfl,(b.trans d).tup g,f,λq h=>r q _ ((c.trans (b.trans d)).trans (ah.new h _)) (aG.of aq)⟩⟩
theorem Sn (i:Gw K ta σ H xs)(e:∀H',ah H H'->Gv th σ H' (.int j))(f:¬ (HT.dW xs.length 0 none=0/\HT.dW xs.length xs.length (some j)=xs.length)):Gw K (Pb (JI K) ta A3 (zG th)) σ H (ki xs none (some j)):= λR r=>i _ λa h c g=>e h c _ λl b=>⟨j,rfl,a,xs,rfl,b.tup g,f,λq k=>r q _ ((c.trans b).trans (ah.new k _)) (aG.of aq)⟩
theorem WX (h:Gw K ta σ H xs)(g:∀H',ah H H'->Gw K tb σ H' ys):Gw K (UA K ta tb) σ H (if xs=[] then ys else xs):=λR r=>h _ λa d c e=>by refine⟨!xs.isEmpty,.inr (.inl ⟨xs,e,rfl⟩),?_⟩;cases xs with| nil=> exact g d c _ λb i f j=>r b i (c.trans f) j| cons x xs=> exact r a d c e
theorem WY (h:Gw K ta σ H xs)(g:∀H',ah H H'->Gv tb σ H' (.int i))(d:g6 xs i=some v):Gv (cT (yI K) ta tb) σ H v:=λR r=>h _ λa H' s e=>g H' s _ λc b=>⟨a,xs,i,v,rfl,rfl,b.tup e,d,r c (s.trans b)⟩
theorem Ql {ps:zzD}(j:Gw K ta σ H (k.map V.int))(i:∀H',ah H H'->Gv tb σ H' (.ref L))(l:ay K H L (ps.map rv))(g:∀p∈ps,aG K H p.1 (p.2.map V.int)) : Gv (cT (NO K false) ta tb) σ H (.bl (decide (k∈ps.map (·.2)))):=λR r=>j _ λc h b f=>i h b _ λm a=>⟨c,L,k,ps,rfl,rfl,a.tup f,(b.trans a).seq l,λp d=>(b.trans a).tup (g p d),by
  have e:decide (∃p∈ps,p.2=k)=decide (k∈ps.map (·.2)):=by simp
  rw[false_xor,e];exact r m (b.trans a)⟩
end
end L2
namespace fX
open PySem PySem.Spec PyProof.Rows L2 kg TB WD
section
variable {P:zAA}{w:zAE}{K:zzA}{mg:Str->Option Value}{base:Heap}{t:Ad}
theorem zf {k:Nat}(a:k < c.length+2):g6 (([-1]++c++[-1]).map V.int) (k:Int)=some (.int (dX (c++[-1]) k)):=by refine bL ?_;rw[v3];unfold dX;grind
theorem I_ (a:k < c.length+1):dX (c++[-1]) k=dX c k:=by unfold dX;grind
theorem OG:dX c (k+1)=c.getD k 0:=by rfl
inductive uM (K:zzA)(vs:List V)(H:Hp)(Q:VK)(E_:XK):Prop| mk (a T ca:M1) (x:Str) (ps:zzD) (c:List Int):vs=[.ref a,.ref ca]->ri K H a T x ps->aG K H ca (c.map V.int)->c.length<=20->(∀H',ah H H'->Q (.bl (iO (ps.map (·.2)) c)) H')->uM K vs H Q E_
theorem wO:aN ["_law_system_here","_law_column_here","_law_whole"] ["_law_system_here","_law_column_here"] (aE kE):=cI
theorem Gz (T:Txt K mg t):aL P w K mg base bg 1 t.rL t.kI ["_law_system_here","_law_column_here"] (uM K):=by
 refine T._law_last.fn.ok wO (λN H Q E h=>?_) (λB A r s H N Q E J h=>?_)
 ·obtain⟨a,T,U,x,l,c,rfl,_⟩:=h;rfl
 obtain⟨a,G,U,x,l,c,rfl,I,W,z,C⟩:=h;refine⟨_,(aj (bh 2 wO.nd (aC (AG K) (aC (AG K) (bw (af (eF cY ao) ai)) (pv 1)) (bw (af (eF cY ao) ai)))) (av (aK (aH (um K) (by rfl) T.o5 zCI (af (gg ["_law_k","_law_whole","_law_system_here"] [none,some 2,some 0] (bP rfl T.cH (af (aC cX (aH (dB K) (by rfl) T.cg zA1 (af (pv 2) ai)) ao) ai)) (λ_ _ _ _ O=>⟨(bu 0 O),bT,(lE (Ua K J.units) (bw (af (aI (cQ K) (pv 1) (pv 0) (λ_ _=>rfl)) (af (eF cY ao) (af (aI (cQ K) (pv 1) (aC aU (pv 0) ao) (λ_ _=>rfl)) (af (eF cY ao) ai))))) (aI (cQ K) (pv 2) ao (λ_ _=>rfl)) rfl)⟩)) ai))))),?_⟩;have d:∀{σ:L2.St} {H:Hp},Gv (zB (rU λi=>.int (-i)) (tC (.int 1))) σ H (.int (-1)):=λ{σ H}=>nW az;refine aP (wN (K:=K) (wN (mU (aA d) (by decide)) (λv n=>Gy aa (n.tup W)) (by rw[yB]; show 1+c.length<=PK; rw[u4]; lia)) (λv n=>mU (aA d) (by decide)) (by rw[zAf,yB]; show 1+c.length+1<=PK; rw[u4]; lia) _ λwa v n f=>?_);have y:[V.int (-1)]++c.map V.int++[V.int (-1)]=([-1]++c++[-1]).map V.int:=by simp
 rw[y] at f;refine cV (ee (pO (jj:=((c.length+1:Nat):Int)) (aA (aR (aO (Ba (K:=K) (aA aa) f) λ_ _=>az) (by simp))) (by lia) (by lia) λH2 q=>?_));rw[zA3];refine eS (λj=>.bl (decide ([dX c j,-1,(c++[-1]).getD j 0,-1]∈l.map (·.2)))) (small (by lia)) (λj u R Y o Z=>?_) λD u hD o S=>?_
 ·have g:=I.same (n.trans (q.trans o));have m:=(q.trans o).tup f;rw[zero_add];refine fN (Ql (K:=K) (L:=G) (k:=[dX c j,-1,(c++[-1]).getD j 0,-1]) (Qk (mU (au (cG (K:=K) aa (λ_ _=>aa) m (zf (by lia))) λF p=>au d λX M=>au (cG (K:=K) (i:=((j+1:Nat):Int)) aa (λ_ _=>aR (aO (i:=(j:Int)) (j:=1) aa λ_ _=>az) rfl) ((p.trans M).tup m) (zf (by ext))) λ_ _=>aA d) (by show 4<=PK; decide)) (by rw[I_ ‹_›,OG]; rfl)) (λF p=>cG (K:=K) aa (λ_ _=>az) ((g.same p).1) rfl) g.2.1 g.2.2) ‹_›
 ·refine⟨D,(range (c.length+1)).map (λj=>decide ([dX c j,-1,(c++[-1]).getD j 0,-1]∈l.map (·.2))),rfl,ay.of (by ext),?_⟩;have e:(((range (c.length+1)).map (λj=>decide ([dX c j,-1,(c++[-1]).getD j 0,-1]∈l.map (·.2)))).all λb=>b)=iO (l.map (·.2)) c:=by unfold iO;rw[zBm];rfl
  rw[e];exact C u (n.trans (q.trans o))
end
noncomputable def gY (x y:Str)(h k:Nat):List Int:=if k < h+1 then ((range x.cps.size).filter λv=>decide (x.cps.getD v 0=y.cps.getD k 0)).map (λv:Nat=>(v:Int)) else [-1]
noncomputable def iP (l c:List Int)(k:Nat)(v:Int):List Int:=[dX l k,dX c k,(l++[-1]).getD k 0,v]
noncomputable def iQ (ts:zzB)(l:List Int)(k:Nat)(ms:List Int)(c:List Int):zzB:=(ms.filter λv=>decide (iP l c k v∈ts)).map λv=>c++[v]
noncomputable def iB (x:Str)(ts:zzB)(y:Str)(l:List Int)(h:Nat):Nat->zzB| 0=>[[]]| k+1=>(iB x ts y l h k).flatMap (iQ ts l k (gY x y h k))
section
variable {x y:Str}{ts:zzB}{l c:List Int}{h k:Nat}
theorem VH:(gY x y h k).Nodup:=by
 unfold gY;split;·refine zAh.mpr ((zC0 _ List.nodup_range).imp λ{a b} d z=>d (by lia))
 ·simp
theorem Ja:(gY x y h k).length<=x.cps.size\/(gY x y h k).length=1:=by
 unfold gY;split
 ·left;rw[yB];exact zAv (List.length_filter_le _ _) (by simp)
 ·right; rfl
theorem qA (a:¬ k < h+1):gY x y h k=[-1]:=by unfold gY; rw[xI a]
theorem Jb (e:k < h+1):v∈gY x y h k↔o_ x ⟨#[y.cps.getD k 0]⟩ v:=by
 unfold gY o_;rw[v6 e,xL];constructor
 ·rintro⟨n,f,rfl⟩;obtain⟨d,a⟩:=zAt.mp f;have b:=zAi a;have g:=zAk.mp d;refine⟨by simp,by show n < (x.cps.size:Int); ext,?_⟩;rw[zA3,b];exact wP.mpr rfl
 ·rintro⟨d,a,b⟩;have a:v < x.cps.size:=a;refine⟨v.toNat,zAt.mpr ⟨zAk.mpr (by ext),j2 ?_⟩,by lia⟩;exact wP.mp b
theorem jQ (a:i < c.length):(c++[v]).getD i 0=c.getD i 0:=by grind
theorem gE:(c++[v]).getD c.length 0=v:=by simp
theorem jR (a:i<=c.length):dX (c++[v]) i=dX c i:=by
 unfold dX;split;·rfl
 ·exact jQ (by lia)
theorem rm:d∈iQ ts l k ms c↔∃v∈ms,iP l c k v∈ts/\d=c++[v]:=by unfold iQ;grind
theorem iR:∀{k:Nat} {c:List Int},c∈iB x ts y l h k↔c.length=k/\∀i,i < k->c.getD i 0∈gY x y h i/\iP l c i (c.getD i 0)∈ts
 | 0,c=>by show c∈[[]]↔_;simp| k+1,c=>by
  show c∈(iB x ts y l h k).flatMap _↔_;rw[List.mem_flatMap];constructor
  ·rintro⟨d,a,o⟩;obtain⟨v,n,j,rfl⟩:=rm.mp o;obtain⟨g,b⟩:=iR.mp a;refine⟨by ext,λi p=>?_⟩;by_cases e:i=k
   ·subst e;have m:(d++[v]).getD i 0=v:=by rw[<-g]; exact gE
    rw[m];refine⟨n,?_⟩;unfold iP at j ⊢;rw[jR (by ext)];exact j
   ·have f:i < k:=by lia
    rw[jQ (by ext)];refine⟨(b i f).1,?_⟩;have:=(b i f).2;unfold iP at this ⊢;rw[jR (by grind)];exact this
  ·rintro⟨g,b⟩;obtain⟨d,v,rfl⟩:∃d v,c=d++[v]:=by
    rcases List.eq_nil_or_concat c with rfl | ⟨d,v,rfl⟩;·simp at g
    ·exact⟨d,v,by simp⟩
   have a:=by simpa using g
   refine⟨d,iR.mpr ⟨a,λi p=>?_⟩,rm.mpr ⟨v,?_,?_,rfl⟩⟩
   ·have:=b i (by lia);rw[jQ (by ext)] at this;refine⟨this.1,?_⟩;have:=this.2;unfold iP at this ⊢;rw[jR (by lia)] at this;exact this
   ·have:=(b k (by simp)).1;rw[<-a,gE] at this;rw[<-a];exact this
   ·have:=(b k (by simp)).2;rw[<-a,gE] at this;unfold iP at this ⊢;rw[jR (y6 _)] at this;rw[<-a];exact this
theorem So (e:ms.Nodup):(iQ ts l k ms c).Nodup:=by exact zAh.mpr ((zC0 _ e).imp λ{a b} d z=>d (by ext))
theorem CL:∀{k:Nat},(iB x ts y l h k).Nodup| 0=>by show ([[]]).Nodup; simp| k+1=>by refine List.pairwise_flatMap.mpr ⟨λc _=>So VH,(CL).imp λ{a b} d u f v e z=>d ?_⟩;obtain⟨p,_,_,rfl⟩:=rm.mp f;obtain⟨q,_,_,rfl⟩:=rm.mp e;ext
theorem uN {α β:Type}{f:α->List β}:∀{cs:List α},(∀c∈cs,(f c).length<=b)->(cs.flatMap f).length<=cs.length * b| [],_=>by simp| c::cs,a=>by have i:=a c zAc;have g:=uN λd e=>a d (zB1 _ e);rw[List.flatMap_cons,zAf,zBw,Nat.add_mul];lia
theorem zg:(iQ ts l k ms c).length<=ms.length:=by unfold iQ;rw[yB];exact List.length_filter_le _ _
theorem pq (f:x.cps.size<=3):∀{k:Nat},(iB x ts y l h k).length<=3 ^ min k (h+1)
 | 0=>by show 1<=_; simp| k+1=>by
  have i:=pq f (k:=k);by_cases c:k < h+1
  ·have a:min (k+1) (h+1)=min k (h+1)+1:=by lia
   rw[a];refine zAv (uN (b:=3) λc _=>?_) (by lia);have d:=zg (ts:=ts) (l:=l) (k:=k) (ms:=gY x y h k) (c:=c);have g:=Ja (x:=x) (y:=y) (h:=h) (k:=k);lia
  ·have a:min (k+1) (h+1)=min k (h+1):=by lia
   rw[a];refine zAv (uN (b:=1) λe _=>?_) (by ext);have d:=zg (ts:=ts) (l:=l) (k:=k) (ms:=gY x y h k) (c:=e);rw[qA c] at d;rw[qA c];symm
theorem xP (b:d∈iB x ts y l h (h+2)):d.dropLast.length=h+1/\d=d.dropLast++[-1]:=by
 obtain⟨e,a⟩:=iR.mp b;obtain⟨c,v,rfl⟩:∃c v,d=c++[v]:=by
  rcases List.eq_nil_or_concat d with rfl | ⟨c,v,rfl⟩;·ext
  simp
 have:=(a (h+1) (by simp)).1;rw[qA (by simp)] at this;ext
noncomputable def xQ (x:Str)(ts:zzB)(y:Str)(l:List Int)(h:Nat)(q:List Int->Bool):zzB:=((iB x ts y l h (h+2)).map List.dropLast).filter q
theorem MC (a:x.cps.size<=3):(xQ x ts y l h q).length<=3 ^ (h+1):=by have:=pq (ts:=ts) (y:=y) (l:=l) (h:=h) a (k:=h+2);refine zAv (List.length_filter_le _ _) ?_;ext
theorem yk {α β:Type}{f:α->β}:∀{cs:List α},cs.Nodup->(∀a∈cs,∀b∈cs,f a=f b->a=b)->(cs.map f).Nodup| [],_,_=>nodup_nil| a::cs,e,i=>by obtain⟨g,d⟩:=zB6.mp e;refine zB6.mpr ⟨λz=>?_,yk d (by grind)⟩;grind
theorem OH:(xQ x ts y l h q).Nodup:=by refine zC0 _ (yk CL λa f b d e=>?_);rw[(xP f).2,(xP d).2,e]
theorem MD (t:l.length=h+1):c∈xQ x ts y l h q↔(c.length=h+1/\r8 x y h c/\gz ts h l c)/\q c=true:=by
 unfold xQ;rw[zAt];refine and_congr_left λ_=>?_;rw[xL];have m:(l++[-1]).getD (h+1) 0=-1:=by ext
 constructor
 ·rintro⟨d,n,rfl⟩;obtain⟨b,j⟩:=xP n;obtain⟨o,a⟩:=iR.mp n;generalize s:d.dropLast=c at b j;subst j;refine⟨b,λi f=>?_,λi f=>?_,?_⟩
  ·have:=(a i (by lia)).1;rw[jQ (by ext)] at this;exact (Jb f).mp this
  ·have:=(a i (by lia)).2;unfold iP at this;rw[jQ (by ext),jQ (by ext),jR (by lia)] at this;exact this
  ·have:=(a (h+1) (by simp)).2;unfold iP at this;rw[m,jR (by ext)] at this;have e:(c++[-1]).getD (h+1) 0=-1:=by rw[<-b]; exact gE
   rw[e] at this;exact this
 ·rintro⟨b,o,a,p⟩;refine⟨c++[-1],iR.mpr ⟨by ext,λi f=>?_⟩,List.dropLast_concat⟩;by_cases g:i < h+1
  ·rw[jQ (by ext)];refine⟨(Jb g).mpr (o i g),?_⟩;have:=a i g;unfold iP;rw[jQ (by ext),jR (by lia)];exact this
  ·have r:i=h+1:=by lia
   subst r;have e:(c++[-1]).getD (h+1) 0=-1:=by rw[<-b]; exact gE
   rw[e,qA ‹_›];refine⟨wP.mpr rfl,?_⟩;unfold iP;rw[m,jR (by ext)];exact p
end
section
variable {P:zAA}{w:zAE}{K:zzA}{mg:Str->Option Value}{base:Heap}{t:Ad}
theorem pH (h:aG K H a xs)(c:H F=some (.lst ys)):aG K (upd H F o) a xs:=by
 rcases h with (h | ⟨b,h⟩) | h;·exact .inl (.inl (by rw[aD (λz=>by ext)]; symm))
 ·exact .inl (.inr ⟨b,by rw[aD (λz=>by ext)]; symm⟩)
 ·exact .inr h
noncomputable def LT (K:zzA)(H:Hp)(F:M1)(cs:zzB):Prop:=∃a:zzD,H F=some (.lst (a.map rv))/\(∀q∈a,aG K H q.1 (q.2.map V.int))/\a.map (·.2)=cs
theorem LT.same (h:LT K H F cs)(s:ah H H'):LT K H' F cs:=by obtain⟨e,a,d,c⟩:=h;exact⟨e,s _ _ a,λq b=>s.tup (d q b),c⟩
theorem LT.snoc (h:LT K H F cs)(g:aG K H c (d.map V.int))(b:H F=some (.lst ws)):LT K (upd H F (.lst (ws++[.ref c]))) F (cs++[d]):=by
 obtain⟨a,j,f,k⟩:=h;have e:ws=a.map rv:=by ext
 refine⟨a++[(c,d)],by rw[aq,e,v4]; rfl,λq i=>?_,by ext⟩;rcases w8.mp i with z | z;·exact pH (f q z) b
 ·rw[wP.mp z];exact pH g b
theorem Zm {k:Nat}(j:k < l.length+1):ki (([-1]++l++[-1]).map V.int) (some (k:Int)) (some ((k+2:Nat):Int))=[.int (dX l k),.int ((l++[-1]).getD k 0)]:=by
 unfold ki;rw[HT.sO,HT.sO,yB];have a:([-1]++l++[-1]).length=l.length+2:=by simp
 rw[a,Nat.min_eq_left (by lia),Nat.min_eq_left (by lia),Nat.add_sub_cancel_left,<-List.map_drop,<-map_take];have e:([-1]++l++[-1]).drop k=dX l k::(l++[-1]).getD k 0::([-1]++l++[-1]).drop (k+2):=by
  have g:=zCf (l:=[-1]++l++[-1]) (i:=k) (by lia);have f:=zCf (l:=[-1]++l++[-1]) (i:=k+1) (by ext);have d:=by have:=zf (c:=l) (k:=k) (by lia);rw[I_ ‹_›,bL (v:=V.int (([-1]++l++[-1])[k]'(by lia))) (by rw[v3,y8 (by lia)]; rfl)] at this;exact V.int.inj (zAy this)
  have b:([-1]++l++[-1])[k+1]'(by ext)=(l++[-1]).getD k 0:=by rw[y2,y8 (by simp; symm)];rfl
  rw[g,f,d,b]
 rw[e];rfl
theorem OI (a:c.length=k):g6 (if c.map V.int=[] then [V.int (-1)] else c.map V.int) (-1)=some (.int (dX c k)):=by
 rcases List.eq_nil_or_concat c with rfl | ⟨d,v,rfl⟩
 ·subst a;rfl
 ·subst a;rw[xI (by simp)];unfold g6 zH;rw[xI (by decide),v6 (by simp; lia)];show ((d.concat v).map V.int)[(-1+(((d.concat v).map V.int).length:Int)).toNat]?=_;have e:(-1+(((d.concat v).map V.int).length:Int)).toNat=d.length:=by simp; lia
  rw[e,v3,List.concat_eq_append,zAs (y6 _),zCs];unfold dX;rw[xI (by simp),zAf];show _=some (V.int ((d++[v]).getD (d.length+1 - 1) 0));rw[zA7,gE];rfl
theorem CM {l c ms:List Int}(a:ms[j]?=some v):iQ ts l k (ms.take (j+1)) c=iQ ts l k (ms.take j) c++if iP l c k v∈ts then [c++[v]] else []:=by
 unfold iQ;rw[zAm,a,zCe,v4];congr 1;by_cases q:iP l c k v∈ts
 ·rw[v6 q];simp [q]
 ·rw[xI q];simp [q]
theorem ME {α β:Type}{f:α->List β}{cs:List α}{i:Nat}{c:α}(a:cs[i]?=some c):(cs.take (i+1)).flatMap f=(cs.take i).flatMap f++f c:=by rw[zAm,a,List.flatMap_append];simp
theorem OJ {c:List Int}:ki (c.map V.int) none (some (-1))=c.dropLast.map V.int:=by
 have e:HT.dW (c.map V.int).length (c.map V.int).length (some (-1))=c.length - 1:=by show (if (-1:Int) < 0 then ((-1:Int)+((c.map V.int).length:Int)).toNat else min (-1:Int).toNat (c.map V.int).length)=_;grind
 unfold ki;rw[e,HT.Ej,Nat.sub_zero,List.drop_zero,<-map_take,List.dropLast_eq_take]
theorem Ss (h:Gv a σ H u)(g:∀H',ah H H'->Gv b σ H' v)(d:D_ u v=true):Gv (cT Ea a b) σ H (.bl (decide (u=v))):=λR r=>h _ λH' s=>g H' s _ λc e=>⟨d,r c (s.trans e)⟩
theorem Su (h:Gv a σ H (.bl b)):Gt (fun σ H Q=>a σ H λx H'=>∃k,AY K x H' k/\Q k H') σ H b:=λR r=>h _ λH' s=>⟨b,rfl,r H' s⟩
theorem VI {d:List (Option Nat)}{g:TG}{c:TT}{b e:TE}{us:TS}{D:Ends}{σ:L2.St}{H:Hp}{n:Nat}{a:M1}{xs:List V}(h:Gv e σ H (.ref a))(i:ay K H a xs)(k:∀H',ah H H'->ay K H' a xs->cL (mW K a) d g c b σ H' λf j=>us D (σ.set n (some (.ref f))) j):eY (ni n (oV K e) d g c b) us D σ H:=TX (D:={ D with nx:=us D }) h i k
theorem VJ:decide (V.str ⟨#[a]⟩=V.str ⟨#[b]⟩)=decide (a=b):=by simp
theorem atS {z:Str}(a:k < z.cps.size):g6 z.cps.toList (k:Int)=some (z.cps.getD k 0):=bL (by ext)
theorem CO:(range (j+1)).filter p=(range j).filter p++if p j=true then [j] else []:=by rw[zA2,zCe];grind
theorem AH {H:Hp}{a:zzD}{i:Nat}(h:(a.map rv)[i]?=some v):∃q∈a,v=.ref q.1/\(a.map (·.2))[i]?=some q.2:=by grind
inductive wQ (K:zzA)(vs:List V)(H:Hp)(Q:VK)(E_:XK):Prop| mk (a T la:M1) (x y:Str) (ps:zzD) (l:List Int) (h:Nat) (r:Bool):vs=[.ref a,.ref la,.str y,.bl r]->ri K H a T x ps->aG K H la (l.map V.int)->l.length=h+1->y.cps.size=h+1->h<=2->x.cps.size<=3->(∀Z H',H Z=none->ah H H'->LT K H' Z (xQ x (ps.map (·.2)) y l h λc=>!r||iO (ps.map (·.2)) c)->Q (.ref Z) H')->wQ K vs H Q E_
theorem bO:aN ["_law_system_here","_law_left","_law_text","_law_right","_law_some","_law_k","_law_longer","_law_column_here","_law_marks","_law_mark","_law_above","_law_tile","_law_found"] ["_law_system_here","_law_left","_law_text","_law_right"] (aE i0):=cI
theorem BI (T:Txt K mg t):aL P w K mg base bg 2 t.oG t.i7 ["_law_system_here","_law_left","_law_text","_law_right"] (wQ K):=by
 have J:aL P w K mg base bg 1 t.rL t.kI ["_law_system_here","_law_column_here"] (uM K):=Gz T;refine T._law_column.fn.ok bO (λvs H Q E h=>?_) (λcdv A outer s H vs Q E hr h=>?_)
 ·obtain⟨a,T,la,x,y,ps,l,h,r,rfl,_⟩:=h;rfl
 obtain⟨a,T0,la,x,y,ps,l,h,r,rfl,hS,hla,hl,hy,hh,hx,kk⟩:=h;refine⟨_,(aj (bh 4 bO.nd (bH (af (bw ai) ai))) (aj (cS zAl rfl (bP rfl T.cH (af (aC aU (aH (dB K) (by rfl) T.cg zA1 (af (pv 2) ai)) ao) ai)) (bu 5 bO.nd) (aj (bh 6 bO.nd (bH ai)) (aj (cS zAl rfl (dD K (pv 4)) (bu 7 bO.nd) (aj (bh 8 bO.nd (bH (af (eF cY ao) ai))) (aj (bG (a_ Dp (pv 5) (aH (dB K) (by rfl) T.cg zA1 (af (pv 2) ai)) rfl) (av (UD 8 bO.nd ["_law_mark","_law_system_here","_law_text","_law_k"] [none,some 0,some 2,some 5] (bP rfl T.cH (af (aH (dB K) (by rfl) T.cg zA1 (af (aI (cQ K) (pv 0) ao (λ_ _=>rfl)) ai)) ai)) (λ_ _ _ _ nd=>⟨(bu 0 nd),(sR (a_ dQ (aI lU (aI (cQ K) (pv 1) ao (λ_ _=>rfl)) (pv 0) (λ_ _=>rfl)) (aI lU (pv 2) (pv 3) (λ_ _=>rfl)) rfl)),(pv 0)⟩))) aW) (av (cS zAl rfl (dD K (pv 8)) (bu 9 bO.nd) (aj (bh 10 bO.nd (aI (cQ K) (Y6 K (pv 7) (vz (bw (af (eF cY ao) ai)))) (eF cY ao) (λ_ _=>rfl))) (aj (bh 11 bO.nd (ue (TZ K) (aC (AG K) (aC (AG K) (bw (af (eF cY ao) ai)) (pv 1)) (bw (af (eF cY ao) ai))) (sP (pv 5)) (sP (aC aU (pv 5) ao)))) (av (bG (a_ (Ua K hr.units) (bw (af (aI (cQ K) (pv 11) ao (λ_ _=>rfl)) (af (pv 10) (af (aI (cQ K) (pv 11) ao (λ_ _=>rfl)) (af (pv 9) ai))))) (aI (cQ K) (pv 0) ao (λ_ _=>rfl)) rfl) (av (cU (mX K zAo zAq zAr dh (pv 6) (af (aC (AG K) (pv 7) (bw (af (pv 9) ai))) ai)))) aW))))))))) (av (bh 4 bO.nd (pv 6)))))) (aj (UD 12 bO.nd ["_law_column_here"] [none] (dD K (pv 4)) (λ_ _ _ _ nd=>⟨(bu 0 nd),bT,(ue (TZ K) (pv 0) A4 (sP (eF cY ao)))⟩)) (av (aK (gg ["_law_one","_law_right","_law_system_here"] [none,some 3,some 0] (dD K (pv 12)) (λ_ _ _ _ nd=>⟨(bu 0 nd),(sR (PW.pt (qE (nP (vO K (pv 1) (λ_=>rfl))) (sJ (sI (cD T._law_last J hr aM (af (pv 2) (af (pv 0) ai)))))))),(pv 0)⟩))))))),?_⟩;have G:∀{σ:L2.St} {H:Hp},Gv (zB (rU λi=>.int (-i)) (tC (.int 1))) σ H (.int (-1)):=λ{σ H}=>nW az;have hyl:y.length=h+1:=hy;have Ir:x.length<=3:=hx;generalize hts:ps.map (·.2)=ts at kk;refine aP ⟨(by simp),λe0 Qm=>⟨(by show 1<=PK; decide),λS0 Yr=>?_⟩⟩;have s0:ah H (upd H e0 (.tup [])):=ah.new Qm _;have s0':ah (upd H e0 (.tup [])) (upd (upd H e0 (.tup [])) S0 (.lst [.ref e0])):=ah.new Yr _;have l0:LT K (upd (upd H e0 (.tup [])) S0 (.lst [.ref e0])) S0 [[]]:=⟨[(e0,[])],aq,λq hq=>by rw[wP.mp hq];exact s0'.tup (aG.of aq),rfl⟩;have n0:H S0=none:=s0.free Yr;have Ys:=s0.trans s0';generalize upd (upd H e0 (.tup [])) S0 (.lst [.ref e0])=H0 at l0 Ys;refine lJ (n:=h+2) (aA (aR (aO (fZ (K:=K) (aA aa) (small (by lia))) λ_ _=>az) (by grind))) (by lia) (λk σ H1=>∃(S:M1) (e5 e6 e7 e8 e9 g m:Option V),σ=[some (.ref a),some (.ref la),some (.str y),some (.bl r),some (.ref S),e5,e6,e7,e8,e9,g,m,none]/\ah H H1/\H S=none/\LT K H1 S (iB x ts y l h k)) (λH1 s1=>⟨S0,none,none,none,none,none,none,none,rfl,Ys.trans s1,n0,l0.same s1⟩) (λk σ H1 hk C=>?_) fun σ H1 C=>?_
 ·refine hold λP_2 k_2=>?_;obtain⟨S,e5,e6,e7,e8,e9,g,m,rfl,s1,UP,VL⟩:=C;obtain⟨qs,hq1,hq2,I⟩:=VL;refine k_2 ?_;refine aP ⟨(by simp),λF hF=>?_⟩;have hFn:H F=none:=s1.free hF;have sF:ah H1 (upd H1 F (.lst [])):=ah.new hF _;have lF:LT K (upd H1 F (.lst [])) F []:=⟨[],aq,by simp,rfl⟩;generalize upd H1 F (.lst [])=HF at sF lF;generalize N:iB x ts y l h k=cs at I;have FP:k < l.length+1:=by ext
  refine RV (K:=K) (xs:=qs.map rv) aa (ay.of (sF _ _ hq1)) (λi σ H3=>∃(e7 e8 e9 g m:Option V),σ=[some (.ref a),some (.ref la),some (.str y),some (.bl r),some (.ref S),some (.int (k:Int)),some (.ref F),e7,e8,e9,g,m,none]/\ah H1 H3/\LT K H3 F ((cs.take i).flatMap (iQ ts l k (gY x y h k)))) (λH3 s3=>⟨e7,e8,e9,g,m,rfl,sF.trans s3,lF.same s3⟩) (λi σ H3 C=>by obtain⟨_,_,_,_,_,_,s3,_⟩:=C; exact ay.of (s3 _ _ hq1)) (λi v σ H3 hv C=>?_) fun σ H3 C=>?_
  ·refine hold λP0 An=>?_;obtain⟨e7,e8,e9,g,m,rfl,s3,l3⟩:=C;obtain⟨q,jN,rfl,o⟩:=AH (H:=H) hv;refine An ?_;have hc:=hq2 q jN;rw[I] at o;have hcm:q.2∈iB x ts y l h k:=N ▸ j1 o;have hcl:=(iR.mp hcm).1;generalize hcc:q.2=c at hc o hcl;refine aP (ju (aA G) (by show 1<=PK; decide) _ λM0 H4 hM0 W Zn=>?_);refine Mh (fun σ' H'=>∃M,σ'=[some (.ref a),some (.ref la),some (.str y),some (.bl r),some (.ref S),some (.int (k:Int)),some (.ref F),some (.ref q.1),some (.ref M),e9,g,m,none]/\ah H3 H'/\H3 M=none/\H' M=some (.lst ((gY x y h k).map V.int))) (dY (aO aa λ_ _=>fZ (K:=K) (aA aa) (small (by lia)))) (λck H5 B nx m6=>?_) (λck H5 B=>?_) fun σ' H' hR=>?_
   ·have Yt:k < h+1:=by grind
    have Yu:=hS.same (s1.trans (s3.trans (W.trans B)));refine Ld (jj:=(x.cps.size:Int)) (aA (fZ (K:=K) (aA (cG (K:=K) aa (λ_ _=>az) Yu.1 (bL (j:=0) rfl))) (small (by lia)))) (by simp) (by lia) λH6 U=>?_;rw[zA3];refine zP (small (by lia)) (λi ys _=>ys=((range i).filter λv=>decide (x.cps.getD v 0=y.cps.getD k 0)).map λv:Nat=>V.int (v:Int)) (λD hD=>rfl) (λD j ys H7 R1 R0 hD hj O Y p k1 k0=>?_) λD ys H7 hD O Y hl7 p=>?_
    ·have hS7:=Yu.same (U.trans O);refine (show Gt _ _ _ (decide (x.cps.getD j 0=y.cps.getD k 0)) from di (dY (Ss (nV (cG (K:=K) aa (λ_ _=>az) hS7.1 (bL (j:=0) rfl)) (λ_ _=>aa) (small (by lia)) (by rw[zero_add]; exact atS hj)) (λ_ _=>nV aa (λ_ _=>aa) (small (by lia)) (atS (by ext))) rfl)) VJ) _ λH8 s8=>?_;by_cases q1:x.cps.getD j 0=y.cps.getD k 0
     ·rw[v6 (j2 q1)];refine fN (v:=.int (j:Int)) (aa (by rw[zero_add]; rfl)) λH9 s9=>k1 _ _ (s8.trans s9) (by rw[p,CO,v6 (j2 q1),v4]; rfl)
     ·rw[xI (λz=>q1 (zAi z))];exact k0 _ s8 (by rw[p,CO,xI (λz=>q1 (zAi z)),zCu])
    ·refine m6 _ _ ⟨D,rfl,(W.trans (B.trans (U.trans O))),(W.trans (B.trans U)).free hD,?_⟩;rw[Y,p];unfold gY;ext
   ·have Yt:¬ k < h+1:=by grind
    refine⟨M0,rfl,W.trans B,hM0,?_⟩;rw[qA Yt];exact B _ _ Zn
   ·obtain⟨M,rfl,sM,hMn,hM⟩:=hR;generalize hms:gY x y h k=ms at hM l3;have hMF:M≠F:=λz=>by obtain⟨_,z1,_⟩:=l3;ext
    refine Bx (K:=K) (xs:=ms.map V.int) aa (ay.of hM) (λj σ H5=>∃(e9 g m:Option V),σ=[some (.ref a),some (.ref la),some (.str y),some (.bl r),some (.ref S),some (.int (k:Int)),some (.ref F),some (.ref q.1),some (.ref M),e9,g,m,none]/\ah H1 H5/\H5 M=some (.lst (ms.map V.int))/\LT K H5 F ((cs.take i).flatMap (iQ ts l k ms)++iQ ts l k (ms.take j) c)) (λH5 B=>⟨e9,g,m,rfl,s3.trans (sM.trans B),B _ _ hM,by have:iQ ts l k (ms.take 0) c=[]:=rfl;rw[this,zCu];exact l3.same (sM.trans B)⟩) (λj σ H5 C=>by obtain⟨_,_,_,_,_,h5,_⟩:=C; exact ay.of h5) (λj u σ H5 hu C=>?_) fun σ H5 C=>?_
    ·refine hold λP_8 Vg=>?_;obtain⟨e9,g,m,rfl,B,VM,l5⟩:=C;obtain⟨v,hv,rfl⟩:∃v,ms[j]?=some v/\u=.int v:=by grind
     refine Vg ?_;have hc5:=B.tup hc;refine eL (WY (K:=K) (WX (Gy aa hc5) λ_ _=>mU (aA G) (by show 1<=PK; decide)) (λ_ _=>G) (OI hcl)) λH6 U=>?_;have Zo:=(s1.trans (B.trans U)).tup hla;refine aP (WW (K:=K) (i:=(k:Int)) (j:=((k+2:Nat):Int)) (Qk (wN (wN (mU (aA G) (by show 1<=PK; decide)) (λH7 O=>Gy aa (O.tup Zo)) (by rw[yB]; show 1+l.length<=PK; rw[u4]; lia)) (λH7 O=>mU (aA G) (by show 1<=PK; decide)) (by rw[zAf,yB]; show 1+l.length+1<=PK; rw[u4]; lia)) (show _=([-1]++l++[-1]).map V.int by simp)) (λ_ _=>aa) (λ_ _=>aR (aO (i:=(k:Int)) (j:=2) aa λ_ _=>az) rfl) (by rw[HT.sO,HT.sO,yB];ext) _ λta H7 O VN=>?_);rw[Zm FP] at VN;have FZ:=U.trans O;have hS7:=hS.same (s1.trans (B.trans FZ));refine fc (b:=decide (iP l c k v∈ts)) (di (dY (Ql (K:=K) (L:=T0) (ps:=ps) (k:=iP l c k v) (mU (au (cG (K:=K) aa (λ_ _=>az) VN (bL (j:=0) rfl)) λH8 s8=>au aa λH9 s9=>au (cG (K:=K) aa (λ_ _=>az) ((s8.trans s9).tup VN) (bL (j:=1) rfl)) λ_ _=>aA aa) (by show 4<=PK; decide)) (λH8 s8=>cG (K:=K) aa (λ_ _=>az) ((hS7.same s8).1) (bL (j:=1) rfl)) hS7.2.1 hS7.2.2)) (by ext)) (λct H8 s8=>?_) λct H8 s8=>?_
     ·have X:=FZ.trans s8;obtain⟨qs5,Qe,_,hq5⟩:=id l5;refine jt ((aa (v:=.ref F) (by rfl)) _ λH9 s9=>⟨.inl ⟨rfl,_,ay.of ((X.trans s9) _ _ Qe)⟩,ee (wN (K:=K) (Gy aa ((X.trans s9).tup hc5)) (λ_ _=>mU (aA (aa (v:=.int v) (by rfl))) (by show 1<=PK; decide)) (by rw[yB]; show c.length+1<=PK; rw[u4]; lia) _ λp Cq s10 hp=>?_)⟩);have Kf:=X.trans (s9.trans s10);have VO:=Kf _ _ Qe;refine⟨F,_,_,rfl,rfl,VO,?_,?_⟩
      ·have hb:qs5.length<=100:=by
        have e1:qs5.length=(qs5.map (·.2)).length:=by rw[yB]
        rw[e1,hq5,zAf];have b1:ms.length<=3:=by have:=Ja (x:=x) (y:=y) (h:=h) (k:=k);rw[hms] at this;lia
        have b2:∀c' ms',(iQ ts l k ms' c').length<=ms'.length:=λc' ms'=>zg;have b3:=uN (f:=iQ ts l k ms) (b:=3) (cs:=cs.take i) λc' _=>zAv (b2 c' ms) b1;have b4:=b2 c (ms.take j);rw[zBv] at b3 b4;have b5:=pq (ts:=ts) (y:=y) (l:=l) (h:=h) hx (k:=k);rw[N] at b5;have b6:3 ^ min k (h+1)<=3 ^ 3:=zBz (by decide) (by lia);have b7:3 ^ 3=27:=rfl;have b8:min i cs.length * 3<=27 * 3:=zA9 3 (by lia);grind
       rw[yB,u4];lia
      ·refine⟨_,_,_,rfl,(B.trans Kf).put hF _,by rw[aD hMF]; exact Kf _ _ VM,?_⟩;rw[CM hv,v6 (zAi ct),<-List.append_assoc];exact (l5.same Kf).snoc (by rw[v4]; exact hp) VO
     ·have X:=FZ.trans s8;refine⟨_,_,_,rfl,B.trans X,X _ _ VM,?_⟩;rw[CM hv,xI (of_decide_eq_false ct),zCu];exact l5.same X
    ·obtain⟨e9,g,m,rfl,B,VM,l5⟩:=C;refine⟨_,_,_,_,_,rfl,B,?_⟩;rw[yB,zAd] at l5;rw[ME o];exact l5
  ·obtain⟨e7,e8,e9,g,m,rfl,s3,l3⟩:=C;refine Ez aa λH4 W=>⟨F,_,_,_,_,_,_,_,rfl,s1.trans (s3.trans W),hFn,?_⟩;rw[yB] at l3;have:cs.length=qs.length:=by rw[<-I,yB]
   rw[<-this,zAd] at l3;show LT K H4 F ((iB x ts y l h k).flatMap _);rw[N];exact l3.same W
 ·refine hold λac3 Zp=>?_;obtain⟨S,e5,e6,e7,e8,e9,g,m,rfl,s1,UP,VL⟩:=C;obtain⟨qs,hq1,hq2,I⟩:=VL;refine Zp ?_;generalize N:iB x ts y l h (h+2)=cs at I;have Fv:qs.length<=100:=by
   have e1:qs.length=(qs.map (·.2)).length:=by rw[yB]
   have b5:=pq (ts:=ts) (y:=y) (l:=l) (h:=h) hx (k:=h+2);have b6:3 ^ min (h+2) (h+1)<=3 ^ 3:=zBz (by decide) (by ext);have b7:3 ^ 3=27:=rfl;rw[N] at b5;rw[e1,I];lia
  refine VI (K:=K) (xs:=qs.map rv) aa (ay.of hq1) λH2 s2 Zq=>?_;refine qI Zq (small (by rw[yB]; lia)) (λi ys H3=>∃rs:zzD,ys=rs.map rv/\rs.map (·.2)=(cs.take i).map List.dropLast/\∀q∈rs,aG K H3 q.1 (q.2.map V.int)) (λD hD=>⟨[],rfl,rfl,by simp⟩) (λD i v ys H3 R1 R0 hD hv s3 Y C k1 k0=>?_) λD ys H3 hD s3 Y hl3 C=>?_
  ·obtain⟨q,jN,rfl,o⟩:=AH (H:=H) hv;rw[I] at o;have hcm:q.2∈iB x ts y l h (h+2):=N ▸ j1 o;have hcl:=(iR.mp hcm).1;obtain⟨rs,rfl,Z,hr3⟩:=C;refine Sn (K:=K) (Gy aa ((s2.trans s3).tup (hq2 q jN))) (λ_ _=>G) (λz=>?_) _ λp H4 W hp=>?_
   ·have z2:=z.2;rw[yB,hcl] at z2;have:HT.dW (h+2) (h+2) (some (-1))=h+1:=by show (if (-1:Int) < 0 then ((-1:Int)+((h+2:Nat):Int)).toNat else min (-1:Int).toNat (h+2))=_;rw[v6 (by decide)];lia
    rw[this] at z2;ext
   ·rw[OJ] at hp;refine k1 _ _ W ⟨rs++[(p,q.2.dropLast)],by rw[v4]; rfl,by rw[v4,Z,zAm,o,v4]; rfl,λu hu=>?_⟩;rcases w8.mp hu with z | z;·exact pH (W.tup (hr3 u z)) (W _ _ Y)
    ·rw[wP.mp z];exact pH hp (W _ _ Y)
  ·obtain⟨rs,rfl,Z,hr3⟩:=C;have VP:cs.take (qs.map rv).length=cs:=by
    have:(qs.map rv).length=cs.length:=by rw[yB,<-I,yB]
    rw[this,zAd]
   rw[VP] at Z;generalize hds:cs.map List.dropLast=ds at Z;have hrl:rs.length<=100:=by
    have e1:rs.length=(rs.map (·.2)).length:=by rw[yB]
    have e2:qs.length=(qs.map (·.2)).length:=by rw[yB]
    rw[e1,Z,<-hds,yB,<-I,<-e2];exact Fv
   refine cV (lW (K:=K) (xs:=rs.map rv) aa (ay.of Y) λH4 W hD4=>?_);have s14:=s1.trans (s2.trans (s3.trans W));refine qI hD4 (small (by rw[yB]; lia)) (λi ys H5=>∃us:zzD,ys=us.map rv/\us.map (·.2)=(ds.take i).filter (λc=>!r||iO ts c)/\∀q∈us,aG K H5 q.1 (q.2.map V.int)) (λD hD=>⟨[],rfl,rfl,by simp⟩) (λD2 i v ys H5 R1 R0 UT hv B Kg C k1 k0=>?_) λD2 ys H5 UT B Kg hl5 C=>?_
   ·obtain⟨q,jN,rfl,o⟩:=AH (H:=H) hv;rw[Z] at o;obtain⟨us,rfl,wR,hu3⟩:=C;have hcl:q.2.length<=20:=by have:=j1 o;rw[<-hds] at this;obtain⟨d,hd,e⟩:=xL.mp this;have:=(xP (N ▸ hd)).1;rw[<-e];lia
    refine (show Gt _ _ _ (!r||iO ts q.2) from ug (nU (Su (K:=K) aa)) λ_ H6 U=>dY (eB (au aa λ_ _=>aA aa) λH7 R O k7=>⟨a,T0,q.1,x,ps,q.2,rfl,hS.same (s14.trans (B.trans (U.trans O))),(W.trans (B.trans (U.trans O))).tup (hr3 q jN),hcl,by rw[hts]; exact k7⟩)) _ λH6 U=>?_;have ef:(ds.take (i+1)).filter (λc=>!r||iO ts c)=(ds.take i).filter (λc=>!r||iO ts c)++if (!r||iO ts q.2)=true then [q.2] else []:=by
     rw[zAm,o,zCe];congr 1;by_cases z:(!r||iO ts q.2)=true;·rw[v6 z]; simp only [Option.toList]; rw[List.filter_cons,v6 z,List.filter_nil]
     ·rw[xI z]; simp only [Option.toList]; rw[List.filter_cons,xI z,List.filter_nil]
    by_cases z:(!r||iO ts q.2)=true
    ·rw[v6 z];refine fN (v:=.ref q.1) aa λH7 O=>k1 _ _ (U.trans O) ⟨us++[q],by rw[v4]; rfl,by rw[v4,wR,ef,v6 z]; rfl,λu hu=>?_⟩;rcases w8.mp hu with z2 | z2;·exact pH ((U.trans O).tup (hu3 u z2)) ((U.trans O) _ _ Kg)
     ·rw[wP.mp z2];exact pH ((W.trans (B.trans (U.trans O))).tup (hr3 q jN)) ((U.trans O) _ _ Kg)
    ·rw[xI z];exact k0 _ U ⟨us,rfl,by rw[wR,ef,xI z,zCu],λu hu=>U.tup (hu3 u hu)⟩
   ·obtain⟨us,rfl,wR,hu3⟩:=C;refine kk D2 H5 (s14.free UT) (s14.trans B) ⟨us,Kg,hu3,?_⟩;have e2:ds.take (rs.map rv).length=ds:=by
     have:(rs.map rv).length=ds.length:=by rw[yB,<-Z,yB]
     rw[this,zAd]
    rw[e2,<-hds,<-N] at wR;exact wR
noncomputable def oh:Nat->Nat| 0=>0| d+1=>27 * oh d+1
noncomputable def uO (x:Nat)(c:List Int):Dt:=.tup [.int (x:Int),.tup (c.map Dt.int)]
theorem CQ:∀c:List Int,gf (c.map Dt.int)=true| []=>rfl| n::c=>by show (true&&gf (c.map Dt.int))=true;rw[CQ c];rfl
theorem CT:∀c:List Int,gu (c.map Dt.int)=0| []=>rfl| n::c=>by show max 0 (gu (c.map Dt.int))=0;rw[CT c];rfl
theorem Jc {x:Nat}(h:aG K H nm [.int (x:Int),.ref l])(a:aG K H l (c.map V.int)):NK K H (uO x c) nm:=by
 refine NK.of h ?_ ?_ ?_
 ·unfold aJ;refine⟨_,_,rfl,by rfl,?_⟩;unfold aJ;refine⟨_,_,rfl,?_,by rfl⟩;unfold Rep;exact⟨l,_,rfl,a,lG c⟩
 ·show (true&&(gf (c.map Dt.int)&&true))=true;rw[CQ];rfl
 ·show max 0 (max (gu (c.map Dt.int)+1) 0)<=7;rw[CT];decide
theorem OL (h:uO x c=uO g e):x=g/\c=e:=by
 unfold uO at h;injection h with h;injection h with f d;injection d with d _;injection f with f;injection d with d;refine⟨by lia,?_⟩;have i:∀a b:List Int,a.map Dt.int=b.map Dt.int->a=b:=by intro a;induction a with| nil=>simp| cons n a j=>intro b k; cases b with| nil=>ext| cons m b=> grind
 grind
theorem GB (h:ay K H a xs)(k:Kx d H H')(b:∀o xs,H d≠some (.lst xs)/\H d≠some (.jo o (.lst xs))):ay K H' a xs:=by
 rcases h with (h | ⟨o,h⟩) | h;·exact .inl (.inl (k.keep _ _ h λz=>by ext))
 ·exact .inl (.inr ⟨o,k.keep _ _ h λz=>by ext⟩)
 ·exact .inr h
theorem wU (h:bE K P w H d a n)(o:Obj)(xs:List V):H d≠some (.lst xs)/\H d≠some (.jo o (.lst xs)):=by obtain⟨b,e,_⟩:=h;rw[e];unfold Dz;simp
noncomputable def OM (x:Str)(ts:zzB)(h:Nat)(ys:List Str)(a:Dt->Option V):Prop:=∀k c,(a (uO k c)).isSome=true->Rl x ts h c (ys.drop k) none
structure ON (p:List Str)(h wd:Nat):Prop where
 len:p.length=h+1
 row:∀r∈p,r.cps.size=wd
 hh:h<=2
 w1:1<=wd
 w4:wd<=4
inductive r9 (K:zzA)(P:zAA)(w:zAE)(N:Nat)(vs:List V)(H:Hp)(Q:VK)(E_:XK):Prop| mk (a T pa wa da:M1) (x:Str) (ps:zzD) (p:List Str) (h wd X n m d:Nat) (qs:zzD) (q:M1 × List Int) (mm:Dt->Option V):vs=[.ref a,.ref pa,.ref wa,.ref da]->d < N->ri K H a T x ps->ay K H pa (p.map V.str)->ON p h wd->(∀tl∈ps.map (·.2),fk m tl)->x.cps.size<=3->H wa=some (.lst ((qs++[q]).map rv))->(∀u∈qs++[q],aG K H u.1 (u.2.map V.int))->q.2.length=h+1->qs.length=X->X+d=wd->bE K P w H da mm n->OM x (ps.map (·.2)) h (cols p) mm->n+oh d < PK->(∀(Jd:Dt->Option V) (H':Hp) (o:Option (zzB)),Kx da H H'->bE K P w H' da Jd (n+oh d)->OM x (ps.map (·.2)) h (cols p) Jd->Rl x (ps.map (·.2)) h q.2 ((cols p).drop X) o->(o=none->Q .bq H')/\∀(l:zzB) (Z:M1) (us:zzD),o=some l->H' Z=some (.lst (us.map rv))->(∀u∈us,aG K H' u.1 (u.2.map V.int))->us.map (·.2)=(qs++[q]).map (·.2)++l->Q (.ref Z) H')->r9 K P w N vs H Q E_
theorem VQ (m:Gw K j σ H xs)(p:∀H',ah H H'->Gv h σ H' (.ref a))(o:bE K P w H a g n)(l:∀b H',ah H H'->aG K H' b xs->NK K H' d b):Gv (J2 K P w c j h) σ H (.bl (c ^^ (g d).isSome)):= λR r=>m _ λb k f q=>p k f _ λi e=>⟨a,_,rfl,⟨g,n,d,b,o.same (f.trans e),rfl,l b i (f.trans e) (e.tup q),rfl⟩,r i (f.trans e)⟩
theorem OO {l g i:TE}{us:TS}{D:Ends}{σ:L2.St}{H:Hp}{a:M1}{xs:List V}{c:Dt->Option V}{n:Nat}{d:Dt}{v:V}(x:Gv l σ H v)(u:∀H',ah H H'->Gv i σ H' (.ref a))(C:∀H',ah H H'->Gw K g σ H' xs)(z:bE K P w H a c n)(B:n < PK)(A:∀b H',ah H H'->aG K H' b xs->NK K H' d b)(k:∀H' o,ah H H'->bE K P w (upd H' a o) a (λj=>if j=d then some v else c j) (n+1)->us D σ (upd H' a o)):eY (DA K P w i g l) us D σ H:= x _ λq e=>u q e _ λr m=>C r (e.trans m) _ λb f p y=>by have s:=e.trans (m.trans p);exact⟨a,rfl,c,n,d,b,z.same s,B,rfl,A b f s y,λo h=>k f o s h⟩
noncomputable def FW (K:zzA)(a:M1)(g:TG)(h us:TS)(D:Ends)(σ:L2.St)(H:Hp):Prop:=∃W:Nat->Nat->L2.St->Hp->Prop,(∃m,W 0 m σ H)/\∀i m σ H,W i m σ H->((mW K a).stop i H/\us D σ H)\/((mW K a).go i H/\∃N:L2.St->Hp->Prop,(∀c b,N c b->∃e,e < m/\W (i+1) e c b)/\∀x b,(mW K a).BW i H x b->g x σ b λf j=>h { D with nx:=N,ct:=N,bk:=us D } f j)
theorem Sv {a:M1}{xs:List V}{g:TG}{c us:TS}{D:Ends}{σ:L2.St}{H:Hp}(b:Nat->L2.St->Hp->Prop)(j:b 0 σ H)(h:∀i σ H,b i σ H->ay K H a xs)(k:∀i x σ H,xs[i]?=some x->b i σ H->g x σ H λf d=>c { D with nx:=b (i+1),ct:=b (i+1),bk:=us D } f d) (l:∀σ H,b xs.length σ H->us D σ H):FW K a g c us D σ H:= yE (D:={ D with nx:=us D }) b j (λi σ H _ p=>h i σ H p) k l
theorem OP {c:TA}{sp:Sp}{E:XK}{g:TG}{b us:TS}{D:Ends}{σ:L2.St}{H:Hp}(h:c σ H λvs f=>sp (vs++[]) f (λv e=>uu K [v] e λu d=>∃a,u=.ref a/\(∃xs,ay K d a xs)/\FW K a g b us D σ d) E) : eY (lS (oV K (oN (uu K) (cA (oW sp [] E c) dR))) g b) us D σ H:=h
theorem AI {sp:Sp}{E:XK}{a:TA}{σ:L2.St}{H:Hp}{R:VK}(h:a σ H λvs b=>sp (vs++[]) b R E):oW sp [] E a σ H R:=h
theorem Je (h:Gv a σ H v):Gv (O5 a) σ H (.bl (!decide (v=.bq))):=λR r=>h _ ‹_›
theorem Jf:g6 ((a++[q]).map rv) (-1)=some (.ref q.1):=by
 unfold g6 zH;rw[xI (by decide),v6 (by simp; lia)];show ((a++[q]).map rv)[(-1+(((a++[q]).map rv).length:Int)).toNat]?=_;have e:(-1+(((a++[q]).map rv).length:Int)).toNat=a.length:=by simp; lia
 rw[e,v3,zAs (y6 _),zCs];rfl
theorem GC (b:ON p h a):dj p=a:=by have d:=b.len;cases p with| nil=>ext| cons r c=>exact b.row r zAc
theorem MG (a:X < dj p):(cols p).drop X=lq p X::(cols p).drop (X+1):=by
 have b:(cols p).length=dj p:=by unfold cols; simp
 rw[zCf (by ext)];congr 1;have:=I0 a;ext
theorem CU:∀y∈cols p,y.cps.size=p.length:=λy a=>by
 unfold cols at a;obtain⟨k,b,rfl⟩:=xL.mp a;have e:(lq p k).cps.toList=p.map λr=>r.cps.getD k 0:=by have:=qm (p.map λr=>r.cps.getD k 0);rw[zAa] at this;symm
 rw[<-zBp,e,yB]
theorem gF:aN ["_law_system_here","_law_picture_here","_law_way","_law_dead","_law_x","_law_text","_law_column_here","_law_found"] ["_law_system_here","_law_picture_here","_law_way","_law_dead"] (aE jD):=cI
theorem Dl (T:Txt K mg t):∀N:Nat,aL P w K mg base bg (N+2) t.qc t.jJ ["_law_system_here","_law_picture_here","_law_way","_law_dead"] (r9 K P w N):=by
 intro N;induction N with| zero=>
  refine T._law_least.fn.ok gF (λvs H Q E h=>?_) (λcdv A outer s H vs Q E hr h=>?_)
  ·obtain⟨a,T,pa,wa,da,x,ps,p,h,O,X,n,m,d,qs,q,mm,rfl,hd,_⟩:=h;rfl
  ·obtain⟨a,T,pa,wa,da,x,ps,p,h,O,X,n,m,d,qs,q,mm,rfl,hd,_⟩:=h;ext| succ N ih=>
  have B:=ih;have k:aL P w K mg base bg 2 t.oG t.i7 ["_law_system_here","_law_left","_law_text","_law_right"] (wQ K):=BI T;refine T._law_least.fn.ok gF (λvs H Q E h=>?_) (λcdv A outer s H vs Q E hr h=>?_)
  ·obtain⟨a,T,pa,wa,da,x,ps,p,h,O,X,n,m,d,qs,q,mm,rfl,_⟩:=h;rfl
  obtain⟨a,T0,pa,wa,da,x,ps,p,h,O,X,n,m,d,qs,q,mm,rfl,hdN,hS,hp,hP,ht,hx,hw,hwt,hq,hX,hXd,hN,hD,hn,kk⟩:=h;refine⟨_,(aj (bh 4 gF.nd (aC cX (aH (dB K) (by rfl) T.cg zA1 (af (pv 2) ai)) ao)) (aj (bG (a_ dQ (pv 4) (aH (dB K) (by rfl) T.cg zA1 (af (aI (cO K) (pv 1) ao (λ_ _=>rfl)) ai)) (iV _)) (av (aK (pv 2))) aW) (aj (bG (iU (Y5 K P w hr.j5 (bw (af (pv 4) (af (aI (cO K) (pv 2) (eF cY ao) (λ_ _=>rfl)) ai))) (pv 3))) (av (aK zw)) aW) (aj (bh 5 gF.nd (mX K plainAttrs_str slot_str_join type_str_join (Dr K) nN (af (gg ["_law_row","_law_x"] [none,some 4] (dD K (pv 1)) (λ_ _ _ _ nd=>⟨(bu 0 nd),bT,(aI lU (pv 0) (pv 1) (λ_ _=>rfl))⟩)) ai))) (aj (cS zAl rfl (dD K (aH (NV K) (by rfl) T.qh zDA (af (cD T._law_column k hr aM (af (pv 0) (af (aI (cO K) (pv 2) (eF cY ao) (λ_ _=>rfl)) (af (pv 5) (af (lE dQ (aC aU (pv 4) ao) (aH (dB K) (by rfl) T.cg zA1 (af (aI (cO K) (pv 1) ao (λ_ _=>rfl)) ai)) (iV _)) ai))))) ai))) (bu 6 gF.nd) (aj (bh 7 gF.nd (cD T._law_least B hr aM (af (pv 0) (af (pv 1) (af (aC jq (pv 2) (bH (af (pv 6) ai))) (af (pv 3) ai)))))) (av (bG (iU (QV (pv 7))) (av (aK (pv 7))) aW)))) (aj (ur K P w hr.j5 (pv 3) (bw (af (pv 4) (af (aI (cO K) (pv 2) (eF cY ao) (λ_ _=>rfl)) ai))) kU rfl) (av (aK zw)))))))),?_⟩;have Kh:∀{σ:L2.St} {H:Hp},Gv (zB (rU λi=>.int (-i)) (tC (.int 1))) σ H (.int (-1)):=λ{σ H}=>nW az;have hw4:=hP.w4;have hh:=hP.hh;have hpl:=hP.len;have PN:=GC hP;obtain⟨r0,rs,ep⟩:∃r0 rs,p=r0::rs:=by cases p with| nil=>ext| cons r0 rs=>simp
  have hr0:r0.length=O:=hP.row r0 (by ext);have Yv:∀{σ:L2.St} {H':Hp},ah H H'->σ[1]?=some (some (.ref pa))->Gv (oN (λxs H Q=>∃x n,xs=[x]/\rC K x H n/\Q (.int n) H) (cA (cT (oq K) (cF 1) (tC (.int 0))) dR)) σ H' (.int (O:Int)):=λ{σ H'} s' e=> aR (fZ (K:=K) (aA (f_ (K:=K) (aa e) (λ_ _=>az) (s'.seq hp) (by rw[ep]; exact yJ _ _))) (small (by lia))) (by ext);refine eL (v:=.int (X:Int)) (aR (aO (f6 (K:=K) (aA aa) (ay.of hw)) λ_ _=>az) (by ext)) λH1 s1=>?_;refine eG (b:=decide (X=O)) (di (dY (dz aa (λH2 s2=>Yv (s1.trans s2) (by rfl)) rfl)) (by lia)) (λc H2 s2=>?_) λc H2 s2=>?_
  ·have c:=zAi c;have hd0:d=0:=by ext
   subst hd0;refine bU aa λH3 s3=>?_;have M:=s1.trans (s2.trans s3);refine (kk mm H3 (some []) (.same M) (hN.same M) hD ?_).2 [] wa (qs++[q]) rfl (M _ _ hw) (λu hu=>M.tup (hwt u hu)) (by simp);have hl:(cols p).length=dj p:=by unfold cols; simp
   rw[List.drop_of_length_le (by ext)];exact .nil
  have c:=of_decide_eq_false c;obtain⟨I,rfl⟩:∃I,d=I+1:=⟨d - 1,by lia⟩;have s02:=s1.trans s2;have hXw:X < dj p:=by lia
  have hys:∀y∈cols p,y.cps.size=h+1:=λy hy=>by rw[CU y hy,hpl]
  have F:=MG hXw;have VR:aG K H q.1 (q.2.map V.int):=hwt q (by simp);have key:∀{σ:L2.St} {H':Hp},H' wa=some (.lst ((qs++[q]).map rv))->σ[4]?=some (some (.int (X:Int)))->σ[2]?=some (some (.ref wa))->Gw K (vF (cA (cF 4) (cA (cT (oq K) (cF 2) (zB (rU λi=>.int (-i)) (tC (.int 1)))) dR))) σ H' [.int (X:Int),.ref q.1]:=λ{σ H'} h1 e1 e2=> mU (au (aa e1) λH5 s5=>aA (f_ (K:=K) (aa e2) (λ_ _=>Kh) (ay.of (s5 _ _ h1)) Jf)) (by show 2<=PK; decide);refine eG (dY (VQ (K:=K) (P:=P) (w:=w) (d:=uO X q.2) (key (s02 _ _ hw) (by rfl) (by rfl)) (λ_ _=>aa) (hN.same s02) λb H' s' hb=>Jc hb ((s02.trans s').tup VR))) (λck H3 s3=>?_) λck H3 s3=>?_
  ·rw[false_xor] at ck;refine bU az λH4 s4=>?_;have s04:=s02.trans (s3.trans s4);exact (kk mm H4 none (.same s04) ((hN.same s04).le (by simp)) hD (hD X q.2 ck)).1 rfl
  have M:=s02.trans s3;refine aP ⟨rfl,lW (K:=K) aa (M.seq hp) λH4 s4 U0=>?_⟩;refine oA (PV λr=>.str (gy (r.cps.getD X 0))) U0 (small (by grind)) (λi v H5 R hv s5 k5=>?_) λD5 H5 Tw s5 VS=>?_
  ·obtain⟨r,rfl,hr',_⟩:=xJ hv;have hrl:r.length=O:=hP.row r hr';exact fN (nV aa (λ_ _=>aa) (small (by lia)) (Gm (by lia))) λH6 s6=>k5 H6 s6
  refine⟨"",D5,p.map (λr:Str=>gy (r.cps.getD X 0)),rfl,rfl,ay.of (by rw[VS,Bs,zAa]; rfl),?_,?_⟩
  ·rw[Gp,yB];show p.length+p.length * 0<=16777216;lia
  have s05:=M.trans (s4.trans s5);have Qn:(lq p X).cps.size=h+1:=hys _ (List.mem_of_mem_drop (by rw[F]; simp));have ey:join "" (p.map λr:Str=>gy (r.cps.getD X 0))=lq p X:=rfl;rw[ey];generalize hy:lq p X=y at F Qn;clear VS Tw;have hyl:y.length<=100:=by show y.cps.size<=100; lia
  refine OP ((au (aa (v:=.ref a) (by rfl)) λH6 s6=>au (f_ (K:=K) aa (λ_ _=>Kh) (ay.of ((s05.trans s6) _ _ hw)) Jf) λH7 s7=>au (aa (v:=.str y) (by rfl)) λH8 s8=>aA (aR (dz (aO aa λ_ _=>az) (λH9 s9=>Yv (s05.trans (s6.trans (s7.trans (s8.trans s9)))) (by rfl)) rfl) (show _=V.bl (decide (X+1=O)) by congr 1;grind))) _ λH6 s6=>?_);have IQ:=s05.trans s6;refine⟨a,T0,q.1,x,y,ps,q.2,h,decide (X+1=O),rfl,hS.same IQ,IQ.tup VR,hq,Qn,hh,hx,λZ H7 hZ s7 VT=>?_⟩;have s07:=IQ.trans s7;generalize hts:ps.map (·.2)=ts at VT ht hD kk;generalize hcs:xQ x ts y q.2 h (λc=>!decide (X+1=O)||iO ts c)=cs at VT;have hcl:cs.length<=27:=by rw[<-hcs];have b6:3 ^ (h+1)<=3 ^ 3:=zBz (by decide) (by lia);have b7:3 ^ 3=27:=rfl;have:=MC (ts:=ts) (y:=y) (l:=q.2) (h:=h) (q:=λc=>!decide (X+1=O)||iO ts c) hx;lia
  have hcn:cs.Nodup:=by rw[<-hcs]; exact OH
  have hcm:∀c,c∈cs↔(c.length=h+1/\r8 x y h c/\gz ts h q.2 c)/\((cols p).drop (X+1)=[]->gz ts h c (m7 h)):=λY=>by
   rw[<-hcs,MD hq];refine and_congr_right λC=>?_;have hl:(cols p).length=dj p:=by unfold cols; simp
   have e1:(cols p).drop (X+1)=[]↔X+1=O:=by rw[List.drop_eq_nil_iff];lia
   rw[e1];by_cases e:X+1=O
   ·rw[j2 e];simp only [Bool.not_true,Bool.false_or];rw[OE C.1];ext
   ext
  obtain⟨zs,hZ1,hZ2,hZ3⟩:=VT;have hzl:zs.length=cs.length:=by grind
  refine⟨Z,zs,rfl,ay.of hZ1,hZ2,λz hz e=>?_,by ext,by lia,λL U hL J PU=>⟨L,rfl,⟨_,ay.of aq⟩,?_⟩⟩
  ·have:=((hcm z.2).mp (by grind)).1.1;ext
  have sL:ah H7 (upd H7 L (.lst (U.map rv))):=ah.new hL _;have Yw:(upd H7 L (.lst (U.map rv))) L=some (.lst (U.map rv)):=aq;have g:=s07.trans sL;have hkT:∀u∈U,aG K (upd H7 L (.lst (U.map rv))) u.1 (u.2.map V.int):=λu hu=>sL.tup (hZ2 u (J.mem_iff.mp hu));generalize upd H7 L (.lst (U.map rv))=HL at Yw g hkT;have hkm:∀c,c∈U.map (·.2)↔(c.length=h+1/\r8 x y h c/\gz ts h q.2 c)/\((cols p).drop (X+1)=[]->gz ts h c (m7 h)):=λY=>by rw[<-hcm,<-hZ3];exact (J.map (·.2)).mem_iff
  have FP:U.length<=27:=by rw[J.length_eq]; lia
  have hkp:(U.map (·.2)).Pairwise λa b=>HT.lexLt a b=true:=zAh.mpr PU;have W:=hN.same g;have hr:∀y∈(cols p).drop (X+1),y.cps.size=h+1:=λy hy=>hys y (List.mem_of_mem_drop hy);refine Sv (K:=K) (xs:=U.map rv) (λj σ H8=>∃(e6 e7:Option V) (mj:Dt->Option V),σ=[some (.ref a),some (.ref pa),some (.ref wa),some (.ref da),some (.int (X:Int)),some (.str y),e6,e7]/\Kx da HL H8/\bE K P w H8 da mj (n+j * oh I)/\OM x ts h (cols p) mj/\∀i Y,i < j->(U.map (·.2))[i]?=some Y->Rl x ts h Y ((cols p).drop (X+1)) none) ⟨none,none,mm,rfl,.same (ah.refl _),by rw[Nat.zero_mul]; exact W,hD,λi Y hi=>absurd hi (by simp)⟩ (λj σ H8 hP=>by obtain⟨_,_,_,_,S,_⟩:=hP;exact GB (ay.of Yw) S (wU W)) (λj v σ H8 hv VU=>?_) fun σ H8 VU=>?_
  ·obtain⟨e6,e7,mj,rfl,S,hN8,VW,MH⟩:=VU;obtain⟨u,hum,rfl,VX⟩:=AH (H:=H) hv;have hj:j < U.length:=by have:=(q0.mp hv).1;simpa using this
   have Yx:=((hkm u.2).mp (j1 VX)).1.1;have hcd:oh (I+1)=27 * oh I+1:=rfl;have hjc:(j+1) * oh I<=27 * oh I:=zA9 _ (by lia);have hjs:(j+1) * oh I=j * oh I+oh I:=zBc _ _;have OQ:H8 wa=some (.lst ((qs++[q]).map rv)):=S.keep _ _ (g _ _ hw) λz=>by have:=(wU W default ((qs++[q]).map rv)).1;rw[<-z] at this;exact this (g _ _ hw)
   have hS8:ri K H8 a T0 x ps:=⟨S.tk.tup (hS.same g).1,GB (hS.same g).2.1 S (wU W),λz hz=>S.tk.tup ((hS.same g).2.2 z hz)⟩;have hp8:=GB (g.seq hp) S (wU W);have hwt8:∀z∈qs++[q],aG K H8 z.1 (z.2.map V.int):=λz hz=>S.tk.tup (g.tup (hwt z hz));have hu8:=S.tk.tup (hkT u hum);refine aP (AI (ee ((aa (v:=.ref a) (by rfl)) _ λH9 s9=>ee ((aa (v:=.ref pa) (by rfl)) _ λCq s10=>ee (T3 aa ((s9.trans s10) _ _ OQ) (λ_ _=>ju (aA (aa (v:=.ref u.1) (by rfl))) (by show 1<=PK; decide)) (by rw[yB,zAf]; show qs.length+1+1<=PK; rw[u4]; lia) _ λW2 H11 hW2 s11 Zr=>ee ((aa (v:=.ref da) (by rfl)) _ λMI s12=>?_))))));have D:=s9.trans (s10.trans (s11.trans s12));refine⟨a,T0,pa,W2,da,x,ps,p,h,O,X+1,n+j * oh I,m,I,qs++[q],u,mj,rfl,by lia,hS8.same D,D.seq hp8,hP,by rw[hts]; exact ht,hx,by rw[s12 _ _ Zr,v4 (f:=rv) (l₂:=[u])]; rfl,λz hz=>?_,Yx,by simp [hX],by lia,hN8.same D,by rw[hts]; exact VW,by lia,λJd VY o hk Qo uZ CK=>?_⟩
   ·rcases w8.mp hz with z1 | z1;·exact D.tup (hwt8 z z1)
    ·rw[wP.mp z1];exact D.tup hu8
   rw[hts] at uZ CK;have k13:Kx da HL VY:=S.trans ((Kx.same D).trans hk);refine⟨λeo=>?_,λl Z' us eo u7 hus wR=>?_⟩
   ·subst eo;refine fc (b:=false) (dY (Je (v:=.bq) aa)) (λz=>absurd z (by decide)) λ_ H14 s14=>?_;refine⟨_,_,Jd,rfl,k13.trans (.same s14),(Qo.same s14).le (by lia),uZ,λi Y hi C=>?_⟩;by_cases ei:i=j
    ·subst ei;rw[VX] at C;cases C;exact CK
    ·exact MH i Y (by lia) C
   ·subst eo;refine fc (b:=true) (dY (Je (v:=.ref Z') aa)) (λ_ H14 s14=>?_) (λz=>absurd z (by decide));refine bU aa λMJ s15=>?_;have G:=s14.trans s15;refine (kk Jd MJ (some (u.2::l)) ((Kx.same g).trans (k13.trans (.same G))) ((Qo.same G).le (by lia)) uZ ?_).2 (u.2::l) Z' us rfl (G _ _ u7) (λz hz=>G.tup (hus z hz)) (by rw[wR]; simp);rw[F];exact Sg ht Qn hr hkm hkp VX MH CK
  ·obtain⟨e6,e7,mj,rfl,S,hN8,VW,MH⟩:=VU;rw[yB] at hN8 MH;have hcd:oh (I+1)=27 * oh I+1:=rfl;have hjc:U.length * oh I<=27 * oh I:=zA9 _ FP;have OQ:H8 wa=some (.lst ((qs++[q]).map rv)):=S.keep _ _ (g _ _ hw) λz=>by have:=(wU W default ((qs++[q]).map rv)).1;rw[<-z] at this;exact this (g _ _ hw)
   have hq8:=S.tk.tup (g.tup VR);have Yy:Rl x ts h q.2 ((cols p).drop X) none:=by rw[F];exact VG ht Qn hr hkm λY C=>by obtain⟨i,hi,ei⟩:=zA8.mp C;exact MH i Y (by simpa using hi) (by rw[y8 hi,ei])
   refine OO (K:=K) (P:=P) (w:=w) (d:=uO X q.2) (v:=.bl true) az (λ_ _=>aa) (λH9 s9=>key (s9 _ _ OQ) (by rfl) (by rfl)) hN8 (by lia) (λb H' s' hb=>Jc hb (s'.tup hq8)) λH9 o9 s9 hN9=>?_;refine bU az λCq s10=>?_;have k9:Kx da HL (upd H9 da o9):=(S.trans (.same s9)).trans (.put (hN8.same s9).mut);refine (kk _ Cq none ((Kx.same g).trans (k9.trans (.same s10))) ((hN9.same s10).le (by lia)) (λk' Y C=>?_) Yy).1 rfl;by_cases ek:uO k' Y=uO X q.2
   ·obtain⟨rfl,rfl⟩:=OL ek;exact Yy
   ·rw[xI ek] at C;exact VW k' Y C
theorem Jg:∀{ts:zzB},ts.Pairwise (λa b=>HT.lexLt a b=true)->o6 ts=true| [],_=>rfl| [a],_=>rfl| a::b::r,h=>by unfold o6;rw[List.pairwise_cons] at h;rw[h.1 b zAc,Jg h.2];rfl
theorem Sw {t:List Int}(h:fk n t):lg n t=true:=by unfold lg;rw[j2 h.1,zB9,zAj];intro f a;have:=h.2 f a;ext
theorem VZ (h:Sys m x ts)(i:m<=16):kr x ts=true:=by
 have d:=h.most;have g:bM x=true:=by unfold bM;rw[zAj];intro c f;rcases h.ab c f with rfl | rfl <;> decide +kernel
 have b:=zAj.mpr λt e=>Sw (h.ok t e);unfold kr;rw[j2 (show x.length<=16 by lia),g,b,Jg h.up];rfl
theorem Sx (h:Sys m x ts):ts.length<=51:=by
 have k:ts.Nodup:=h.up.imp λ{a b} c z=>by rw[z,lex_irrefl] at c; ext
 have j:(ts.filter λt=>!iy t).length<=Bo.length:=TB.gH (by grind) λy d=>by obtain⟨_,b⟩:=zAt.mp d;unfold iy at b;ext
 have g:Bo.length=12:=rfl;have e:=h.few;rw[zCl] at e;have f:ts.length=(ts.filter iy).length+(ts.filter λt=>!iy t).length:=by have:=List.length_eq_countP_add_countP iy (l:=ts);rw[zCl,zCl] at this;ext
 lia
theorem AJ {H:Hp}:∀a:zzD,(∀p∈a,H p.1=some (.lst (p.2.map V.int)))->aJ K H ((a.map (·.2)).map bV) (a.map rv)| [],_=>by rfl| p::b,h=>by unfold aJ;exact⟨_,_,rfl,g4.mpr ⟨p.1,rfl,ay.of (h p zAc)⟩,AJ b (by grind)⟩
theorem GD {H:Hp}{F:M1}{a:zzD}(h:H F=some (.lst (a.map rv)))(b:∀p∈a,H p.1=some (.lst (p.2.map V.int))):Rep K H (.lst ((a.map (·.2)).map bV)) (.ref F):=by unfold Rep;exact⟨F,_,rfl,ay.of h,AJ a b⟩
theorem zh:∀a:zzB,canLayAll0 (Dt.fG (a.map bV))=true| []=>rfl| r::b=>by show (canLayAll0 (Dt.fG (r.map Dt.int))&&canLayAll0 (Dt.fG (b.map bV)))=true;rw[jv,lay_ints,zh b];rfl
theorem GF:∀a:zzB,depthAll (Dt.fG (a.map bV))<=1| []=>zAb _| r::b=>by have:=GF b;show max (depthAll (Dt.fG (r.map Dt.int))+1) (depthAll (Dt.fG (b.map bV)))<=1;rw[jv,uq];ext
theorem GG:∀a:zzB,eqvAll (Dt.fG (a.map bV)) (Dt.fG (a.map bV))=true| []=>rfl| r::b=>by show (eqvAll (Dt.fG (r.map Dt.int)) (Dt.fG (r.map Dt.int))&&eqvAll (Dt.fG (b.map bV)) (Dt.fG (b.map bV)))=true;rw[jv,yM,GG b];simp
theorem MK (a:zzB):JS (.lst (a.map bV)) (.lst (a.map bV)):=⟨zh a,zh a,by have:=GF a;show min (depthAll _+1) (depthAll _+1)<=60;lia⟩
theorem ML (k:Gv g σ H u)(h:∀H',ah H H'->Gv f σ H' v)(F:JS d d)(l:∀H',ah H H'->Rep K H' d u)(i:∀H',ah H H'->Rep K H' d v)(e:eqv d.py d.py=true):Gv (cT (EC K true) g f) σ H (.bl false):= λR r=>k _ λj a=>h j a _ λc b=>⟨d,d,F,l c (a.trans b),i c (a.trans b),by rw[e]; exact r c (a.trans b)⟩
theorem OR (g:Gn d σ H [u,v])(j:∀H',ah H H'->Gv b σ H' (.int i))(l:0<=i)(m:i < 2)(e:z=if i=0 then u else v):Gv (cT (oq K) d b) σ H z:= λR r=>g _ λp n o f a=>j _ f _ λh c=>by
  refine⟨p,[u,v],i,z,rfl,rfl,ay.of (c _ _ a),?_,r h (f.trans c)⟩;rw[e];by_cases q:i=0;·subst q; rfl
  ·have:i=1:=by lia
   subst this; rfl
theorem Sy {H H':Hp}{d:M1}{o:HO}(a:H d=none)(k:Kx d (upd H d o) H'):ah H H':=λb u e=>k.keep b u ((ah.new a o) b u e) λz=>by ext
theorem Sz {ls:Str}(g:p.length=h)(a:∀r∈p,r.cps.size=b/\∀c∈r.cps.toList,c∈ls.cps.toList)(f:∀c∈ls.cps.toList,c=97\/c=98)(n:1<=h)(m:h<=3)(o:1<=b)(l:b<=4):d9 p=true:=by
 have i:dj p=b:=by cases p with| nil=>grind| cons q r=>exact (a q zAc).1
 have d:p.all (qT (dj p))=true:=zAj.mpr λq j=>by unfold qT;have:q.length=b:=(a q j).1;rw[i,this,j2 rfl,zB9];unfold bM;rw[zAj];intro c k;rcases f c ((a q j).2 c k) with rfl | rfl <;> decide +kernel
 unfold d9;rw[d,i,g,j2 (by lia),j2 (by lia),j2 (by lia),j2 (by lia)];rfl
theorem OS:∀m,m < 4->∀h,h < 3->∀k,k < 5->Qf m h k<=13000000:=by decide +kernel
theorem V0 {f:List (Option Nat)}{g:TG}{c:TT}{b d:TE}{σ:L2.St}{H:Hp}{R:VK}{xs:List V}(h:Gn d σ H xs)(k:∀a H',H a=none->ah H H'->H' a=some (.lst xs)->cL (mW K a) f g c b σ H' λi l=>R (.ref i) l):oY (oV K d) f g c b σ H R:=h _ λa H' j s e=>⟨a,rfl,⟨xs,ay.of e⟩,k a H' j s e⟩
theorem V1 {c:List (Option Nat)}{g:TG}{b:TT}{a:TE}{d:TA}{us:TS}{D:Ends}{σ:L2.St}{H:Hp}{n:Nat}{jj:Int}(h:Ga d σ H [.int jj])(f:-(2 ^ 62)<=jj)(j:jj < 2 ^ 62)(k:∀H',ah H H'->cL (qF 0 jj.toNat) c g b a σ H' λe i=>us D (σ.set n (some (.ref e))) i):eY (ni n (xy d) c g b a) us D σ H:=Ld (D:={ D with nx:=us D }) h f j k
inductive wV (K:zzA)(vs:List V)(H:Hp)(Q:VK)(E_:XK):Prop| mk (a:M1) (ns:List Int):vs=[.ref a]->ay K H a (ns.map V.int)->ns.length<=63->(∀H',Q (.bl true) H')->wV K vs H Q E_
theorem mV:aN ["_law_script","_law_system_here","_law_k","_law_high","_law_wide","_law_picture_here","_law_way","_law_found","_law_due"] ["_law_script"] (aE o4):=cI
theorem V2 (T:Txt K mg t):aL P w K mg base bg 36 t.z5 t.uB ["_law_script"] (wV K):=by
 have f:aL P w K mg base bg 2 t.mz t.iJ ["_law_script","_law_k"] (tH K):=rR T;have I:aL P w K mg base bg 4 t.oF t.i6 ["_law_script","_law_k","_law_marks"] (v_ K):=Bp T;have G:aL P w K mg base bg 3 t.nC t.ig ["_law_script","_law_k","_law_high","_law_wide","_law_letters"] (wM K):=AF T;have J:aL P w K mg base bg 7 t.qc t.jJ ["_law_system_here","_law_picture_here","_law_way","_law_dead"] (r9 K P w 5):=Dl T 5;have V3:=Sh (P:=P) (w:=w) (base:=base) T;have SA:aL P w K mg base (nS P w) 4 t.Bg t.s_ ["system","picture","rows"] (yY K t.fY t.dI):=Of T;refine T.law.fn.ok mV (λvs H Q E h=>?_) (λcdv A outer s H vs Q E Y h=>?_)
 ·obtain⟨a,ns,rfl,_⟩:=h;rfl
 obtain⟨a,ns,rfl,hS,hl,kk⟩:=h;refine⟨_,(aj (bh 1 mV.nd (cD T._law_system I Y aM (af (pv 0) (af ao (af ao ai))))) (aj (cS zAl rfl (bP rfl T.cH (af ao ai)) (bu 2 mV.nd) (aj (bh 3 mV.nd (aC aU ao (aC eK (cD T._law_mix f Y aM (af (pv 0) (af (aC aU ao (pv 2)) ai))) ao))) (aj (bh 4 mV.nd (aC aU ao (aC eK (cD T._law_mix f Y aM (af (pv 0) (af (aC aU ao (pv 2)) ai))) ao))) (aj (bh 5 mV.nd (cD T._law_picture G Y aM (af (pv 0) (af (aC aU ao (aC lT ao (pv 2))) (af (pv 3) (af (pv 4) (af (aI (cO K) (bH (af (aI (cQ K) (pv 1) ao (λ_ _=>rfl)) (af nN ai))) (aC eK (cD T._law_mix f Y aM (af (pv 0) (af (aC aU ao (pv 2)) ai))) ao) (λ_ _=>rfl)) ai))))))) (aj (bh 6 mV.nd (cD T._law_least J Y aM (af (pv 1) (af (pv 5) (af (bH (af (aC (Pw K) (bw (af (eF cY ao) ai)) (pv 3)) ai)) (af (qO K P w) ai)))))) (aj (bh 7 mV.nd (cD T.lets V3 Y aM (af (pv 1) (af (gM (Pg K) (by rfl) T.LP boot_list (af (pv 5) ai)) ai)))) (av (bG (PW.pt (qE (iU (D4 (pv 6))) (sJ (iU (D4 (pv 7)))))) (av (bG (a_ (T_ K Y.units) (pv 6) (pv 7) rfl) (av (aK kU)) aW)) (aj (UD 8 mV.nd ["_law_y","_law_way"] [none,some 6] (bP rfl T.cH (af (pv 3) ai)) (λ_ _ _ _ nd=>⟨(bu 0 nd),bT,(gg ["_law_column_here","_law_y"] [none,some 0] (dD K (ue (TY K) (pv 1) (sP ao) A4)) (λ_ _ _ _ nd=>⟨(bu 0 nd),bT,(aI (cQ K) (pv 0) (pv 1) (λ_ _=>rfl))⟩))⟩)) (aj (bG (PW.pt (qE (a_ (T_ K Y.units) (pv 7) (pv 8) rfl) (sJ (nP (sI (cD T.PB SA Y Gk (af (pv 1) (af (pv 5) (af (pv 7) ai))))))))) (av (aK kU)) aW) (av (cU (mX K zAo zAq zAr dh (pv 7) (af (bH ai) ai)))))))))))))) (av (aK kU)))),?_⟩;refine aP (iH (au aa λ_ _=>au az λ_ _=>aA az) λH1 s1=>⟨a,ns,0,3,rfl,s1.seq hS,hl,by decide,by decide,λr T0 H2 x ts ws hr' hT' s2 hr2 hT2 rep L=>?_⟩);have s02:=s1.trans s2;obtain⟨ps,rfl,Ka,hps3⟩:=vQ rep;subst Ka;have hSy:ri K H2 r T0 x ps:=⟨aG.of hr2,ay.of hT2,hps3⟩;have hB:kr x (ps.map (·.2))=true:=VZ L (by decide);have htl:=L.ok;have XM:x.length<=3:=L.most;have XJ:=L.pos;have ac4:ps.length<=51:=by have:=Sx L; ext
 have hM:Fx x (ps.map (·.2)):=⟨by lia,by grind,λt ht=>by have:=(htl t ht).1; ext⟩;have zV:=s02.seq hS;have Kh:∀{σ:L2.St} {H:Hp},Gv (zB (rU λi=>.int (-i)) (tC (.int 1))) σ H (.int (-1)):=λ{σ H}=>nW az;refine lJ (n:=4) (aA (aR az rfl)) (by simp) (λk σ H5=>∃e2 e3 e4 e5 e6 e7 e8:Option V,σ=[some (.ref a),some (.ref r),e2,e3,e4,e5,e6,e7,e8]/\ah H2 H5) (λH5 s5=>⟨_,_,_,_,_,_,_,rfl,s5⟩) (λk σ H5 hk hP=>?_) fun σ H5 hP=>?_
 ·refine hold λX6 Mn=>?_;obtain⟨e2,e3,e4,e5,e6,e7,e8,rfl,s5⟩:=hP;obtain⟨h,UN,hh⟩:∃h:Nat,1+mix ns (200+(k:Int)) % 3=((h+1:Nat):Int)/\h<=2:=⟨(mix ns (200+(k:Int)) % 3).toNat,by lia,by lia⟩;obtain⟨wd,PN,w1,w4⟩:∃c:Nat,1+mix ns (210+(k:Int)) % 4=(c:Int)/\1<=c/\c<=4:=⟨(1+mix ns (210+(k:Int)) % 4).toNat,by lia,by lia,by lia⟩;refine Mn ?_;refine eL (aR (aO az λH3 s3=>bA (i8 zV hl (s5.trans s3) (au aa λ_ _=>aA (aO az λ_ _=>aa))) (λ_ _=>az) (by decide)) (y:=.int ((h+1:Nat):Int)) (by ext)) λH6 s6=>?_;refine eL (aR (aO az λH3 s3=>bA (i8 zV hl (s5.trans (s6.trans s3)) (au aa λ_ _=>aA (aO az λ_ _=>aa))) (λ_ _=>az) (by decide)) (y:=.int (wd:Int)) (by ext)) λH7 s7=>?_;have s27:=s5.trans (s6.trans s7);obtain⟨ls,els,hl1,hl2,Zs⟩:∃ls:Str,V.str ls=(if mix ns (205+(k:Int)) % 2=0 then V.str x else V.str "ab")/\1<=ls.cps.size/\ls.cps.size<=100/\∀c∈ls.cps.toList,c=97\/c=98:=by
   by_cases e:mix ns (205+(k:Int)) % 2=0;·exact⟨x,by ext,XJ,by show x.length<=100; lia,L.ab⟩
   ·exact⟨"ab",by ext,by decide +kernel,by decide +kernel,by decide +kernel⟩
  refine aP (iH (au aa λHa sa=>au (aO az λ_ _=>bA az (λ_ _=>aa) (.inl ⟨by decide,by decide⟩)) λHb sb=>au aa λHc sc=>au aa λHd sd=>aA (OR (K:=K) (z:=.str ls) (ju (au (cG (K:=K) aa (λ_ _=>az) ((hSy.same (s27.trans (sa.trans (sb.trans (sc.trans sd))))).1) rfl) λ_ _=>aA az) (by show 2<=PK; decide)) (λH9 s9=>bA (i8 zV hl (s27.trans (sa.trans (sb.trans (sc.trans (sd.trans s9))))) (au aa λ_ _=>aA (aO az λ_ _=>aa))) (λ_ _=>az) (by decide)) (by lia) (by lia) els)) λH8 s8=>⟨a,ns,220+30 * (k:Int),h+1,wd,ls,rfl,(s27.trans s8).seq zV,hl,hl1,hl2,by grind,by grind,λZ p H9 hZ s9 u7 O hpr=>?_⟩);have s29:=s27.trans (s8.trans s9);have W:d9 p=true:=Sz O hpr Zs (by simp) (by ext) w1 w4;have Yz:ON p h wd:=⟨O,λr Y=>(hpr r Y).1,hh,w1,w4⟩;have LX:Sm p:=⟨by grind,λr Y=>by have:r.length=wd:=(hpr r Y).1; grind⟩;have hcw:(cols p).length=wd:=by have:=GC Yz;unfold cols;ext
  have hys:∀y∈cols p,y.cps.size=h+1:=λy hy=>by rw[CU y hy,O]
  have DG:Qf x.length (p.length - 1) (cols p).length<=13000000:=OS _ (by lia) _ (by lia) _ (by grind);refine aP (AI (ee ((aa (v:=.ref r) (by rfl)) _ λCq s10=>ee ((aa (v:=.ref Z) (by rfl)) _ λH11 s11=>ee (Ak (Mw (K:=K) (n:=h+1) (aA Kh) (λ_ _=>aa) (by simp) (by grind) λtp MI s12 htp=>⟨(by show 1<=PK; decide),λwa hwa=>ee (λda o hda hN=>?_)⟩))))));have V4:=s10.trans (s11.trans s12);have sW:ah MI (upd MI wa (.lst [.ref tp])):=ah.new hwa _;have YA:(upd MI wa (.lst [.ref tp])) wa=some (.lst [.ref tp]):=aq;generalize upd MI wa (.lst [.ref tp])=HW at sW YA hda hN;have sD:ah HW (upd HW da o):=ah.new hda _;have s9D:=V4.trans (sW.trans sD);have hrep:(replicate (h+1) (-1:Int)).map V.int=replicate (h+1) (V.int (-1)):=by simp
  refine⟨r,T0,Z,wa,da,x,ps,p,h,wd,0,0,x.length,wd,[],(tp,replicate (h+1) (-1)),λ_=>none,rfl,by grind,hSy.same (s29.trans s9D),ay.of (s9D _ _ u7),Yz,htl,by symm,sD _ _ YA,λu hu=>?_,by simp,rfl,by simp,hN,λk' c' hc'=>(by cases hc'),?_,λJd H' ow hk Qo uZ N=>?_⟩
  ·rw[wP.mp hu];show aG K _ tp ((replicate (h+1) (-1:Int)).map V.int);rw[hrep];exact (sW.trans sD).tup htp
  ·have:∀d,d < 5->0+oh d < PK:=by rw[u4]; decide
   grind
  have sH:ah HW H':=Sy hda hk;have s9H:=V4.trans (sW.trans sH);rw[List.drop_zero] at N;have N:Rl x (ps.map (·.2)) h (replicate (h+1) (-1)) (cols p) ow:=N;clear Qo uZ hk hN sD s9D;have hp1:p.length - 1=h:=by ext
  refine⟨λeo=>?_,λl Zw us eo hZw hus wR=>?_⟩
  ·subst eo;refine aP (AI (ee ((aa (v:=.ref r) (by rfl)) _ λVY s13=>ee ((aa (v:=.ref Z) (by rfl)) _ λM s14=>⟨Z,p.map V.str,rfl,.inl (ay.of ((s9H.trans (s13.trans s14)) _ _ u7)),λlc V5=>?_⟩))));have sC:ah M (upd M lc (.lst (p.map V.str))):=ah.new V5 _;have MM:(upd M lc (.lst (p.map V.str))) lc=some (.lst (p.map V.str)):=aq;generalize upd M lc (.lst (p.map V.str))=HC at sC MM;have U:=s29.trans (s9H.trans (s13.trans (s14.trans sC)));refine⟨r,T0,lc,x,ps,p,rfl,hSy.same U,hM,hB,by lia,by lia,ay.of MM,LX,W,DG,λMJ S g=>?_,λF rs cs MJ S hF g hrs=>?_⟩
   ·refine fc (b:=true) (ug (dY (sU (v:=.bq) aa)) λ_ _ _=>dY (sU (v:=.bq) aa)) (λ_ H16 s16=>?_) (λz=>absurd z (by decide));refine fc (b:=false) (dY (ML (K:=K) (d:=.bq) (u:=.bq) (v:=.bq) aa (λ_ _=>aa) ⟨rfl,rfl,by decide⟩ (λ_ _=>by unfold Rep; rfl) (λ_ _=>by unfold Rep; rfl) rfl)) (λz=>absurd z (by decide)) λ_ H17 s17=>?_;exact⟨_,_,_,_,_,_,_,rfl,U.trans (S.trans (s16.trans s17))⟩
   ·rw[hp1,O] at g;cases AD htl hys N g
  ·subst eo;obtain⟨u0,C,rfl⟩:∃u0 C,us=u0::C:=by cases us with| nil=>simp at wR| cons u0 C=>exact⟨u0,C,rfl⟩
   have hu3:C.map (·.2)=l:=by simp only [zAw,List.nil_append,List.map_nil,List.cons_append] at wR;exact (List.cons.inj wR).2
   obtain⟨P7,V5⟩:=MA N l rfl;have Yx:C.length=wd:=by rw[<-hcw,<-P7,<-hu3,yB]
   refine aP (AI (ee ((aa (v:=.ref r) (by rfl)) _ λVY s13=>ee ((aa (v:=.ref Z) (by rfl)) _ λM s14=>⟨Z,p.map V.str,rfl,.inl (ay.of ((s9H.trans (s13.trans s14)) _ _ u7)),λlc Zt=>?_⟩))));have sC:ah M (upd M lc (.lst (p.map V.str))):=ah.new Zt _;have MM:(upd M lc (.lst (p.map V.str))) lc=some (.lst (p.map V.str)):=aq;generalize upd M lc (.lst (p.map V.str))=HC at sC MM;have sHC:=s13.trans (s14.trans sC);have U:=s29.trans (s9H.trans sHC);refine⟨r,T0,lc,x,ps,p,rfl,hSy.same U,hM,hB,by lia,by lia,ay.of MM,LX,W,DG,λMJ S g=>?_,λF rs cs MJ S hF g hrs=>?_⟩
   ·rw[hp1,O] at g;cases AD htl hys N g
   ·rw[hp1,O] at g;have VP:=zAy (AD htl hys N g);subst VP;rw[O] at hrs;refine fc (b:=false) (ug (dY (sU (v:=.ref Zw) aa)) λ_ _ _=>dY (sU (v:=.ref F) aa)) (λz=>absurd z (by decide)) λ_ H16 s16=>?_;have Zu:=sHC.trans (S.trans s16);refine V1 (jj:=((h+1:Nat):Int)) (aA aa) (by lia) (by grind) λH17 s17=>?_;rw[zA3];have sH17:=Zu.trans s17;have ecut:ki ((u0::C).map rv) (some (1:Int)) none=C.map rv:=Ct _ 1;refine tW (λi=>rowOf l i) (small (by grind)) (λi H18 R hi s18 k18=>?_) λD ds H18 hD s18 v9 hds hdr=>?_
    ·refine V0 (K:=K) (xs:=C.map rv) (ecut ▸ Rh (K:=K) aa (ay.of ((sH17.trans s18) _ _ hZw)) λ_ _=>az) λSL YB hSL m Zv=>?_;refine k_ (λk=>.int (((C.map (·.2)).getD k []).getD i 0)) (ay.of Zv) (small (by rw[yB]; grind)) (λk v Qp R' hv B Qq=>?_) λD' Qp uZ B Zx=>?_
     ·rw[v3] at hv;obtain⟨q,YC,rfl⟩:=wT.mp hv;have jN:=j1 YC;have hil:i < q.2.length:=by have:=V5 q.2 (by rw[<-hu3]; exact xL.mpr ⟨q,jN,rfl⟩);ext
      have e:(C.map (·.2)).getD k []=q.2:=by rw[y2,v3,YC]; rfl
      rw[e] at Qq;exact fN (cG (K:=K) aa (λ_ _=>aa (by rw[zero_add]; rfl)) ((sH17.trans (s18.trans (m.trans B))).tup (hus q (zB1 _ jN))) (uD hil)) λH21 s21=>Qq H21 s21
     ·refine k18 D' Qp (m.free uZ) (m.trans B) ?_;rw[Zx];congr 2;unfold rowOf;rw[<-hu3,zAa,zAa,yB];refine zCb (by grind) λk h1 h2=>?_;have hk:k < C.length:=by simpa using h1
      simp [y2,hk]
    ·have WZ:rs.map (·.2)=zBG h l:=hrs;have V6:ds.map (·.2)=rs.map (·.2):=by rw[hds,hrs]
     have j:=s16.trans (s17.trans s18);have X:=j _ _ hF.at_;have W0:qV x (ps.map (·.2)) p (rs.map (·.2))=true:=by rw[WZ]; exact Sl W O (IY htl hys N)
     refine eG (b:=false) (ug (dY (ML (K:=K) (d:=.lst ((rs.map (·.2)).map bV)) (u:=.ref F) (v:=.ref D) aa (λ_ _=>aa) (MK _) (λH' s'=>GD (s' _ _ X) λq hq=>(j.trans s') _ _ (hF.rows q hq).2.2) (λH' s'=>by rw[<-V6]; exact GD (s' _ _ v9) λq hq=>s' _ _ (hdr q hq).2.2) (GG _))) λ_ YB m=>nU (dY (eB (v:=.bl true) (au (aa (v:=.ref r) (by rfl)) λ_ _=>au (aa (v:=.ref Z) (by rfl)) λ_ _=>aA (aa (v:=.ref F) (by rfl))) λQp R B Qq=>⟨r,Z,F,x,ps.map (·.2),p,rs.map (·.2),rfl,(hSy.same (U.trans (S.trans (j.trans (m.trans B))))).at_,hM,ay.of ((s9H.trans (sHC.trans (S.trans (j.trans (m.trans B))))) _ _ u7),LX,⟨rs,ay.of ((m.trans B) _ _ X),λq hq=>(j.trans (m.trans B)) _ _ (hF.rows q hq).2.2,rfl⟩,λz=>(by rw[hB] at z; cases z),λ_ z=>(by rw[W] at z; cases z),λ_ _=>by rw[W0]; exact Qq⟩))) (λz=>absurd z (by decide)) λ_ YB m=>?_;refine jt ((aa (v:=.ref F) (by rfl)) _ λQp B=>⟨.inl ⟨rfl,_,ay.of ((m.trans B) _ _ X)⟩,ee ⟨(by show 0<=PK; decide),λe0 Qm=>⟨F,_,_,rfl,rfl,(ah.new Qm _) _ _ ((m.trans B) _ _ X),?_,?_⟩⟩⟩)
     ·have:rs.length=h+1:=by have:=zAz length hrs;simpa using this
      rw[yB,u4];grind
     ·exact⟨_,_,_,_,_,_,_,rfl,(U.trans (S.trans (j.trans (m.trans (B.trans (ah.new Qm _)))))).put (U.free hF.newF) _⟩
 ·obtain⟨e2,e3,e4,e5,e6,e7,e8,rfl,s5⟩:=hP;exact bU az λH6 s6=>kk H6
end
end fX
namespace L2
open PySem PySem.Spec PyProof.Rows PySem.W
def zj (K:zBQ)(f:M1):Option zAF:=match K.lookup f with| some ⟨_,_,.func a,_⟩=>some a| _=>none
def V7 (K:zBQ)(q:Str)(f:M1):Bool:=(match zj K f with| some a=>codeIn K a.code q| none=>false)&&keepIn K (.ref f)
def core (d:zAF):=(d.name,d.qualname,d.params,d.body,d.scope,d.globals,d.closure,d.defaults,d.builtins)
noncomputable def OT:Option (Option Value)->M1| some (some (.ref f))=>f| _=>0
noncomputable def aB (K:zBQ)(n:Str):M1:=OT (nsIn K zAB n)
noncomputable def dg (K:zBQ)(C:M1)(n:Str):M1:=OT (zDD K (.ref C) n)
abbrev V8 (K:zBQ) (n q:Str) (st:zAL) (f:M1):Prop:=((zj K f).map core,V7 K q f)=(some (n,q,gA st,FuncBody.stmts (fq st),aE st,zAB,[],.none,zDK),true)
abbrev CN (K:zBQ) (n:Str):Prop:=nsIn K zAB n=some (some (.ref (aB K n)))
abbrev NF (K:zBQ) (n:Str) (st:zAL):Prop:=CN K n/\V8 K n n st (aB K n)
abbrev MF (K:zBQ) (C:M1) (n q:Str) (st:zAL):Prop:=(zDD K (.ref C) n,isFn K (.ref (dg K C n)))=(some (some (.ref (dg K C n))),true)/\V8 K n q st (dg K C n)
section
variable {K:zBQ}{n q:Str}{st:zAL}{f C:M1}
theorem Jh (h:V8 K n q st f):∃d,nR K n q st f d:=by
 obtain⟨e,b⟩:=y3 h;unfold V7 at b;obtain⟨g,p⟩:=zB4.mp b;cases z:K.lookup f with| none=>rw[zj,z] at e; cases e| some o=> obtain⟨A,G,c,x⟩:=o;cases c with| func d=>
   have r:zj K f=some d:=by unfold zj; rw[z]
   rw[r] at e g;obtain⟨w,v,u,y,s,D,t,E,B,j,i,F,m,k,l⟩:=d;have a:=zAy e;unfold core at a;simp only [Prod.mk.injEq] at a;obtain⟨rfl,rfl,rfl,rfl,rfl,rfl,rfl,rfl,rfl⟩:=a;exact⟨_,Tu z g p⟩| _=>rw[zj,z] at e; cases e
theorem bD (h:NF K n st):∃d,nR K n n st (aB K n) d:=Jh h.2
theorem er (h:MF K C n q st):∃d,nR K n q st (dg K C n) d/\Meth K C n (dg K C n):=by obtain⟨d,F⟩:=Jh h.2;obtain⟨e,b⟩:=y3 h.1;exact⟨d,F,e,b,F.kp⟩
end
abbrev CV (K:zBQ) (n:Str) (v:V):Prop:=((nsIn K zAB n).bind λu=>u.bind D6)=some v
theorem tX {K:zBQ}(h:CV K n v):∃u,nsIn K zAB n=some (some u)/\RelV v u:=by cases e:nsIn K zAB n with| none=>rw[CV,e] at h; cases h| some o=> cases o with| none=>rw[CV,e] at h; cases h| some u=> rw[CV,e] at h;refine⟨u,rfl,?_⟩;have a:D6 u=some v:=h;cases u <;> simp only [D6] at a <;> first | (cases a; first | rfl | exact⟨_,rfl⟩) | cases a
abbrev MN (K:zBQ) (C:M1):Prop:=(plainGet K C Str.empty,hasDictIn K C,plainOver K C,zDD K (.ref C) "__setattr__",makesIn K C,keepIn K (.ref C))=(true,true,true,some (some (.builtin "object.__setattr__")),true,true)
theorem pI {K:zBQ}(h:MN K C):gK K C/\makesIn K C=true/\keepIn K (.ref C)=true:=by simp at h;exact⟨⟨h.1,h.2.1,h.2.2.1,h.2.2.2.1⟩,h.2.2.2.2⟩
abbrev MO (K:zBQ) (C:M1):Prop:=(excIn K C [.type "ValueError",.type "Exception",.type "BaseException",.type "object"] "ValueError.__new__",zDD K (.ref C) "__getattribute__",zDD K (.ref C) "__getattr__",zDD K (.ref C) "__class__",mroIn K C (.type "BaseException"),mroIn K C (.type "object"))=(true,some (some (.builtin "BaseException.__getattribute__")),some none,some (some (.builtin "object.__class__")),some true,some true)
theorem xR {K:zBQ}{a:Str->Option Value}{x:Str}{C:M1}(h:MO K C)(e:a x=some (.ref C)):Dq K a x C/\JP K C:=by ext;exact⟨⟨e,h.1⟩,h.2.1,h.2.2.1,h.2.2.2.1,h.2.2.2.2.1,h.2.2.2.2.2⟩
noncomputable def V9:Option (Option Value)->Bool| some (some (.ref _))=>true| _=>false
theorem MP (h:V9 o=true):o=some (some (.ref (OT o))):=by match o,h with| some (some (.ref a)),_=>rfl
abbrev bZ (K:zBQ) (q:Str) (f:M1):=((zj K f).map core,V7 K q f)
abbrev b9 (n q:Str) (st:zAL):=(some (n,q,gA st,FuncBody.stmts (fq st),aE st,zAB,([]:List (Str × M1)),Value.none,zDK),true)
noncomputable def dP (K:zBQ)(n:Str):Bool:=V9 (nsIn K zAB n)
theorem xS {K:zBQ}(h:dP K n=true):CN K n:=MP h
theorem bS {K:zBQ}{st:zAL}(h:(dP K n,bZ K n (aB K n))=(true,b9 n n st)):NF K n st:=⟨xS (by ext),(by ext)⟩
noncomputable def lQ (K:zBQ)(C:M1)(n:Str):Bool × Bool:=(V9 (zDD K (.ref C) n),isFn K (.ref (dg K C n)))
theorem fV {K:zBQ}{st:zAL}(h:(lQ K C n,bZ K q (dg K C n))=((true,true),b9 n q st)):MF K C n q st:=by obtain⟨a,b⟩:=y3 h;obtain⟨c,d⟩:=y3 a;exact⟨by rw[MP c,d]; rfl,b⟩
abbrev Ji (K:zBQ) (n:Str):=(nsIn K zAB n).bind λu=>u.bind D6
abbrev YD (K:zBQ) (C:M1):=(plainGet K C Str.empty,hasDictIn K C,plainOver K C,zDD K (.ref C) "__setattr__",makesIn K C,keepIn K (.ref C))
abbrev YE:=(true,true,true,some (some (Value.builtin "object.__setattr__")),true,true)
abbrev YF (K:zBQ) (C:M1):=(excIn K C [.type "ValueError",.type "Exception",.type "BaseException",.type "object"] "ValueError.__new__",zDD K (.ref C) "__getattribute__",zDD K (.ref C) "__getattr__",zDD K (.ref C) "__class__",mroIn K C (.type "BaseException"),mroIn K C (.type "object"))
abbrev YG:=(true,some (some (Value.builtin "BaseException.__getattribute__")),some (none:Option Value),some (some (Value.builtin "object.__class__")),some true,some true)
abbrev TK {α:Type} (_:zBQ->α):=α
theorem iS {us:List Value}(h:us.length=n+1):∃a r,us=a::r/\r.length=n:=by cases us with| nil=>cases h| cons a r=>exact⟨a,r,rfl,Nat.succ.inj h⟩
section
variable {K:zzA}{x qual:Str}{st:zAL}{f:M1}{fd:zAF}{p1 p2 p3 p4 p5 p6:Str}
theorem oi (F:nR K x qual st f fd)(h:∀(k d p:Value) (n:Option M1) (c e:Value) (a:Value),zDH (PySem.W.fnOf x qual (gA st) (fq st) (aE st) .none k d p n c e) ⟨[a],[]⟩=pure (([p1]:List Str).zip [a])):Binds K fd [p1] []:=F.binds λk d p n c e i b=>by obtain⟨a,g,rfl,j⟩:=iS b;ext
theorem AK (F:nR K x qual st f fd)(h:∀(k d p:Value) (n:Option M1) (c e:Value) (b a:Value),zDH (PySem.W.fnOf x qual (gA st) (fq st) (aE st) .none k d p n c e) ⟨[b,a],[]⟩=pure (([p1,p2]:List Str).zip [b,a])):Binds K fd [p1,p2] []:=F.binds λk d p n c e m g=>by obtain⟨b,l,rfl,i⟩:=iS g;obtain⟨a,o,rfl,j⟩:=iS i;ext
theorem rq (F:nR K x qual st f fd)(h:∀(k d p:Value) (n:Option M1) (c e:Value) (b a g:Value),zDH (PySem.W.fnOf x qual (gA st) (fq st) (aE st) .none k d p n c e) ⟨[b,a,g],[]⟩=pure (([p1,p2,p3]:List Str).zip [b,a,g])):Binds K fd [p1,p2,p3] []:=F.binds λk d p n c e q j=>by obtain⟨b,o,rfl,l⟩:=iS j;obtain⟨a,s,rfl,i⟩:=iS l;obtain⟨g,m,rfl,r⟩:=iS i;ext
theorem AL (F:nR K x qual st f fd)(h:∀(k d p:Value) (n:Option M1) (c e:Value) (b a i g:Value),zDH (PySem.W.fnOf x qual (gA st) (fq st) (aE st) .none k d p n c e) ⟨[b,a,i,g],[]⟩=pure (([p1,p2,p3,p4]:List Str).zip [b,a,i,g])):Binds K fd [p1,p2,p3,p4] []:=F.binds λk d p n c e s l=>by obtain⟨b,r,rfl,m⟩:=iS l;obtain⟨a,u,rfl,j⟩:=iS m;obtain⟨i,q,rfl,o⟩:=iS j;obtain⟨g,t,rfl,v⟩:=iS o;ext
theorem Qs (F:nR K x qual st f fd)(h:∀(k d p:Value) (n:Option M1) (c e:Value) (g i a j b:Value),zDH (PySem.W.fnOf x qual (gA st) (fq st) (aE st) .none k d p n c e) ⟨[g,i,a,j,b],[]⟩=pure (([p1,p2,p3,p4,p5]:List Str).zip [g,i,a,j,b])):Binds K fd [p1,p2,p3,p4,p5] []:=F.binds λk d p n c e y m=>by obtain⟨g,w,rfl,r⟩:=iS m;obtain⟨i,z,rfl,q⟩:=iS r;obtain⟨a,s,rfl,l⟩:=iS q;obtain⟨j,v,rfl,o⟩:=iS l;obtain⟨b,u,rfl,t⟩:=iS o;ext
end
noncomputable def Kl (S:zBM->zCU->Option (zBM × zCU))(m:Nat)(z:Option Value):Nat->zBM->zCU->Option zBM| 0,_,_=>none| k+1,x,y=>match through y with| true=>some x| false=>match stepOk m z y with| false=>none| true=>match S x y with| some r=>Kl S m z k r.1 r.2| none=>none
theorem Jj (f:S=stepT (denote e) p w) : ∀{k:Nat} {x d:zBM} {y:zCU},Kl S m z k x y=some d->topRun e p w m z k x.abs y=some d.abs| 0,_,_,_,h=>nomatch h| k+1,x,d,y,h=>by unfold Kl at h;unfold topRun;cases a:through y with| true=>ext| false=> rw[a] at h;cases b:stepOk m z y with| false=>ext| true=> rw[b] at h;cases c:S x y with| none=>ext| some r=>rw[c] at h; rw[f] at c; rw[stepT_spec c]; exact Jj f h
noncomputable def MQ:List Obj->BT->Nat->Option (BT × Nat)| [],T,n=>some (T,n)| o::l,T,n=>match ((T.ins n o).get n).isSome with| true=>MQ l (T.ins n o) (n+1)| false=>none
theorem Jk:∀{l:List Obj} {T:BT} {n:Nat} {r:BT × Nat},MQ l T n=some r->absHeap r.1 r.2 life=⟨((absHeap T n life).objs.toList++l).toArray,life⟩| [],T,n,r,h=>by cases h;rw[zCu];rfl| o::l,T,n,r,h=>by unfold MQ at h;cases g:((T.ins n o).get n).isSome with| false=>ext| true=> rw[g] at h;rw[Jk h,absHeap_ins g];have:((absHeap T n life).push o).objs.toList=(absHeap T n life).objs.toList++[o]:=Array.toList_push;ext
noncomputable def Km (S:zBM->zCU->Option (zBM × zCU))(p:zAA)(N:Nat)(s:VV):Option VV:= match s.heap.isNs zAB&&s.gens.size == 0 with
 | true=>match MQ s.heap.objs.toList .nil 0 with| none=>none| some r=>match Kl S s.heap.objs.size (s.heap.nsMap zAB "__annotations__") N ⟨r.1,r.2,s.heap.life,s.gens,s.drawn,s.toks,s.os⟩ (topStub p) with| none=>none| some a=>match staticsOk (zBN p.main.body) s.heap a.abs.heap&&namesBound p a.abs.heap&&gensDone a.abs&&laidKept s.heap a.abs.heap with| true=>some a.abs| false=>none
 | false=>none
theorem OU (c:S=stepT (denote zCR) p w)(h:Km S p N a=some s):topFrom zCR p w N a=some s:=by obtain⟨⟨⟨l⟩,life⟩,f,d,k,os⟩:=a;unfold Km at h;unfold topFrom;cases e:(Shared.heap _).isNs zAB&&(Shared.gens _).size == 0 with| false=>ext| true=> rw[e] at h;cases b:MQ l .nil 0 with| none=>ext| some r=>
   rw[b] at h;dsimp only at h;have A:=Jk (life:=life) b;have z:(absHeap BT.nil 0 life).objs.toList=[]:=rfl;rw[z,List.nil_append] at A;split at h;·cases h
   ·rename_i g q;have R:=Jj c q;unfold SharedT.abs at R;rw[A] at R;rw[R];exact h
noncomputable def rz (S:zBM->zCU->Option (zBM × zCU))(p:zAA)(w:zAE)(N:Nat):Option VV:=(fencedOpening zCR p w N).bind (Km S p N)
theorem V_ {S:zAE->zBM->zCU->Option (zBM × zCU)}(g:∀w,S w=stepT (denote zCR) p w)(h:∀w,(rz (S w) p w N).map (λs=>(openSeen q loose (zBN p.main.body) Xt true s,d s))=some (openGood q loose,c w)):LeftO p q loose Xt d c N:=λw=>by obtain⟨s,e,f⟩:=wT.mp (h w);obtain⟨i,a,b⟩:=Option.bind_eq_some_iff.mp e;unfold openEnds;rw[a];show (topFrom zCR p w N i).map _=_;rw[OU (g w) b,<-f];rfl
noncomputable def num:Nat->List Obj->zBQ| _,[]=>[]| i,o::l=>match o.alive with| true=>(i,o)::num (i+1) l| false=>num (i+1) l
noncomputable def fragOf (h:Heap):zBQ:=num 0 h.objs.toList
theorem Jl:∀{l:List Obj} {i:Nat},(num i l).lookup a=some o->i<=a/\l[a - i]?=some o/\o.alive=true
 | [],_,h=>by cases h| x::l,i,h=>by
  have b (h:(num (i+1) l).lookup a=some o):i<=a/\(x::l)[a - i]?=some o/\o.alive=true:=by
   obtain⟨p,q,r⟩:=Jl h;have e:a - i=(a - (i+1))+1:=by lia
   exact⟨by exact zBk p,by rw[e]; exact q,r⟩
  unfold num at h;cases z:x.alive with| false=>rw[z] at h; exact b h| true=> rw[z] at h;have c:List.lookup a ((i,x)::num (i+1) l)=some o:=h;rw[zC4] at c;cases e:a == i with
   | true=>
    rw[e] at c;cases c;have:a=i:=by simpa using e
    subst this;exact⟨y6 _,by rw[zCs]; rfl,z⟩| false=> rw[e] at c;exact b c
theorem SD (h:Heap):(fragOf h).In h:=λa o e=>by obtain⟨_,x,y⟩:=Jl e;rw[zBt] at x;exact (Heap.get?_eq_some h a o).mpr ⟨x,y⟩
noncomputable def Wa (s:zAL):Pos:=match s with| .FunctionDef _ _ _ _ _ _ _ _ _ x=>x| _=>default
theorem MR {r:OpenRow}{P q:zAA}{loose:List Str}{d:DefRec}{N:Nat}{α:Type}{f:zBQ->α}{v:α}{S:zAE->zBM->zCU->Option (zBM × zCU)}(g:r.wellSaid=true)(x:r.prog=P)(A:∀w,S w=stepT (denote zCR) P w)(c:∀w,(rz (S w) P w N).map (λs=>openSeen q loose (zBN P.main.body) (λs=>xlAt q [] s&&recOk r.toRowW.records s) true s)=some (openGood q loose))(j:∀w,(rz (S w) P w N).map (λs=>f (fragOf s.heap))=some v)(i:defOf q r.name=some (d,[])) (n:P.theDef r.name=some (d.params,d.body,d.scope)) (z:kwWritten? d.params.kwonlyargs d.params.kw_defaults=some [])(l:(!r.writes||List.isEmpty r.records)=true) (y:(chainsOk q&&opensWell P&&(frees r.toRowW&&r.within.isEmpty))=true) (o:r.prog.bare) (C:r.toRowW.promised)(call:∀K:zBQ,f K=v->WalkO q loose (XL q []) (λ_ h=>K.In h) r.toRowW d [] λf vs=>PySem.call f vs):r.Holds:=by
 subst x;refine holds_open (loose:=loose) (Xt:=λs=>xlAt q [] s&&recOk r.toRowW.records s) (XP:=XL q []) (YP:=λ_ h=>∃K:zBQ,K.In h/\f K=v) (N:=N) (V_ A λw=>?_) (λw s e=>⟨_,SD _,e⟩) (λw h D ⟨K,a,b⟩ k=>⟨K,a.keeps k,b⟩) (λs e=>xl_of s (by ext)) XL.keeps i n z (λs e=>recFacts_of (by ext)) l g y o C ?_
 ·obtain⟨s,e,a⟩:=wT.mp (c w);grind
 ·intro w B u p t G Y;obtain⟨K,a,b⟩:=Y;exact call K b w B u p t G a
theorem OV {α β γ:Type}{o:Option α}{f:α->β}{g:α->γ}{a:β}{b:γ}(c:o.map f=some a)(d:o.map g=some b):o.map (λs=>(f s,g s))=some (a,b):=by cases o with| none=>ext| some s=>ext
end L2
namespace fX
open PySem PySem.Spec PyProof.Rows L2
theorem Wb {K:zzA}(X:K.In h)(G:h.Ns zAB mg)(hfa:mg "law"=some (.ref fa))(a__wall:NF K "_wall" xH)(a_are_letters:NF K "are_letters" iW)(a_is_picture:NF K "is_picture" jx)(a_look_picture:NF K "look_picture" g9)(a_column_at:NF K "column_at" ku)(a_columns_of:NF K "columns_of" jy)(a_are_fields:NF K "are_fields" jz)(a_rises:NF K "rises" sX)(a_is_system:NF K "is_system" kB)(a_look_system:NF K "look_system" iX)(a_bordered:NF K "bordered" lX)(a_tiles_of:NF K "tiles_of" lY)(A:NF K "mirrored_tiles" gk)(a_stands_for:NF K "stands_for" jA)(a_row_fits:NF K "row_fits" lZ)(a_rows_fit:NF K "rows_fit" l6)(a_shows:NF K "shows" sY)(a_bit_of:NF K "bit_of" pU)(a_least_field:NF K "least_field" iY)(a_walk_right:NF K "walk_right" jB)(a_walk_left:NF K "walk_left" kC)(p:NF K "columns_that_end" ff)(M:NF K "least_columns" gP)(a_row_at:NF K "row_at" pV)(a_lets:NF K "lets" vY)(a__law_cell:NF K "_law_cell" kD)(a__law_mix:NF K "_law_mix" l7)(a__law_picture:NF K "_law_picture" g_)(a__law_tiles:NF K "_law_tiles" jC)(a__law_system:NF K "_law_system" iZ)(a__law_column:NF K "_law_column" i0)(a__law_last:NF K "_law_last" kE)(a__law_least:NF K "_law_least" jD)(a_law:NF K "law" o4)(a_LETTERS:CV K "LETTERS" (.str "abcd"))(a_MOST_ROWS:CV K "MOST_ROWS" (.int 4))(a_MOST_COLUMNS:CV K "MOST_COLUMNS" (.int 12))(a_BORDER:CV K "BORDER" (.int (-1)))(a_MOST_MARKS:CV K "MOST_MARKS" (.int 16))(a_TILE_FIELDS:CV K "TILE_FIELDS" (.int 4))(a_QuiltError:CN K "QuiltError")(L:CN K "BadPicture")(a_BadSystem:CN K "BadSystem")(a_FieldSets:CN K "FieldSets")(a_Walk:CN K "Walk")(o_FieldSets:MN K (aB K "FieldSets"))(fy:PySem.W.findIn K (.ref (aB K "FieldSets")) "branches"=some none)(gU:PySem.W.findIn K (.ref (aB K "FieldSets")) "known"=some none)(w:PySem.W.findIn K (.ref (aB K "FieldSets")) "either_known"=some none)(I:PySem.W.findIn K (.ref (aB K "FieldSets")) "both_known"=some none)(y:PySem.W.findIn K (.ref (aB K "FieldSets")) "first_known"=some none)(a_FieldSets____init__:MF K (aB K "FieldSets") "__init__" "FieldSets.__init__" dO)(C:MF K (aB K "FieldSets") "number_for" "FieldSets.number_for" c_)(a_FieldSets__of_one:MF K (aB K "FieldSets") "of_one" "FieldSets.of_one" eN)(a_FieldSets__of_all:MF K (aB K "FieldSets") "of_all" "FieldSets.of_all" gv)(T:MF K (aB K "FieldSets") "tuples_in" "FieldSets.tuples_in" eW)(Y:MF K (aB K "FieldSets") "in_either" "FieldSets.in_either" dG)(a_FieldSets__in_both:MF K (aB K "FieldSets") "in_both" "FieldSets.in_both" dZ)(F:MF K (aB K "FieldSets") "with_first" "FieldSets.with_first" dc)(a_FieldSets__least:MF K (aB K "FieldSets") "least" "FieldSets.least" fh)(o_Walk:MN K (aB K "Walk"))(mJ:PySem.W.findIn K (.ref (aB K "Walk")) "sets"=some none)(jk:PySem.W.findIn K (.ref (aB K "Walk")) "letters"=some none)(mK:PySem.W.findIn K (.ref (aB K "Walk")) "high"=some none)(fj:PySem.W.findIn K (.ref (aB K "Walk")) "lower_left"=some none)(fB:PySem.W.findIn K (.ref (aB K "Walk")) "closing"=some none)(Z:PySem.W.findIn K (.ref (aB K "Walk")) "choices_known"=some none)(fR:PySem.W.findIn K (.ref (aB K "Walk")) "placed_known"=some none)(fS:PySem.W.findIn K (.ref (aB K "Walk")) "closed_known"=some none)(a_Walk____init__:MF K (aB K "Walk") "__init__" "Walk.__init__" gm)(a_Walk__take_tile:MF K (aB K "Walk") "take_tile" "Walk.take_tile" fH)(a_Walk__beginning:MF K (aB K "Walk") "beginning" "Walk.beginning" fJ)(a_Walk__choices:MF K (aB K "Walk") "choices" "Walk.choices" gQ)(a_Walk__placed:MF K (aB K "Walk") "placed" "Walk.placed" h_)(R:MF K (aB K "Walk") "placed_beneath" "Walk.placed_beneath" dH)(a_Walk__placed_right:MF K (aB K "Walk") "placed_right" "Walk.placed_right" d7)(a_Walk__closed:MF K (aB K "Walk") "closed" "Walk.closed" ia)(a_Walk__onward:MF K (aB K "Walk") "onward" "Walk.onward" ic)(a_Walk__behind:MF K (aB K "Walk") "behind" "Walk.behind" ie)(e_BadPicture:MO K (aB K "BadPicture"))(e_BadSystem:MO K (aB K "BadSystem"))(z_len:PySem.W.nsIn K zAB "len"=some none)(z_all:PySem.W.nsIn K zAB "all"=some none)(z_range:PySem.W.nsIn K zAB "range"=some none)(z_zip:PySem.W.nsIn K zAB "zip"=some none)(z_max:PySem.W.nsIn K zAB "max"=some none)(z_min:PySem.W.nsIn K zAB "min"=some none)(z_list:PySem.W.nsIn K zAB "list"=some none)(z_tuple:PySem.W.nsIn K zAB "tuple"=some none)(z_set:PySem.W.nsIn K zAB "set"=some none)(z_sorted:PySem.W.nsIn K zAB "sorted"=some none)(z_dict:PySem.W.nsIn K zAB "dict"=some none)(z_sum:PySem.W.nsIn K zAB "sum"=some none)(z_enumerate:PySem.W.nsIn K zAB "enumerate"=some none)(z_reversed:PySem.W.nsIn K zAB "reversed"=some none) : ∃t:Ad,Txt K mg t/\fa=t.z5/\∀(s:VV) (u:Value),zCY s t.uB ⟨[u],[]⟩ [("_law_script",u)]:=by obtain⟨Be,Jm⟩:=bD a__wall;obtain⟨gB,u9⟩:=bD a_are_letters;obtain⟨jE,wW⟩:=bD a_is_picture;obtain⟨f7,tY⟩:=bD a_look_picture;obtain⟨kF,ym⟩:=bD a_column_at;obtain⟨jF,wX⟩:=bD a_columns_of;obtain⟨jG,wY⟩:=bD a_are_fields;obtain⟨sZ,Jo⟩:=bD a_rises;obtain⟨kG,yo⟩:=bD a_is_system;obtain⟨gC,u_⟩:=bD a_look_system;obtain⟨l8,AM⟩:=bD a_bordered;obtain⟨l9,AN⟩:=bD a_tiles_of;obtain⟨iI,z⟩:=bD A;obtain⟨jH,wZ⟩:=bD a_stands_for;obtain⟨l_,AO⟩:=bD a_row_fits;obtain⟨mh,AQ⟩:=bD a_rows_fit;obtain⟨s_,Jp⟩:=bD a_shows;obtain⟨uA,GH⟩:=bD a_bit_of;obtain⟨kY,vc⟩:=bD a_least_field;obtain⟨mq,w6⟩:=bD a_walk_right;obtain⟨nJ,yp⟩:=bD a_walk_left;obtain⟨gR,r⟩:=bD p;obtain⟨gS,W⟩:=bD M;obtain⟨p_,GI⟩:=bD a_row_at;obtain⟨z4,MS⟩:=bD a_lets;obtain⟨kH,yq⟩:=bD a__law_cell;obtain⟨iJ,AR⟩:=bD a__law_mix;obtain⟨ig,tZ⟩:=bD a__law_picture;obtain⟨jI,w_⟩:=bD a__law_tiles;obtain⟨i6,vd⟩:=bD a__law_system;obtain⟨i7,ve⟩:=bD a__law_column;obtain⟨kI,yt⟩:=bD a__law_last;obtain⟨jJ,xg⟩:=bD a__law_least;obtain⟨uB,Kn⟩:=bD a_law;obtain⟨_,_,_,_,_,_,_,_,_,W_,_⟩:=id Kn.ex;obtain⟨qP,MT,r_LETTERS⟩:=tX a_LETTERS;obtain⟨nK,HD,r_MOST_ROWS⟩:=tX a_MOST_ROWS;obtain⟨jV,BJ,r_MOST_COLUMNS⟩:=tX a_MOST_COLUMNS;obtain⟨uC,OW,r_BORDER⟩:=tX a_BORDER;obtain⟨mD,GJ,r_MOST_MARKS⟩:=tX a_MOST_MARKS;obtain⟨kZ,Dm,r_TILE_FIELDS⟩:=tX a_TILE_FIELDS;obtain⟨fu,j,b⟩:=er a_FieldSets____init__;obtain⟨H,c,E⟩:=er C;obtain⟨gw,o,vj⟩:=er a_FieldSets__of_one;obtain⟨jc,n,vm⟩:=er a_FieldSets__of_all;obtain⟨O,i,Q⟩:=er T;obtain⟨V,g,S⟩:=er Y;obtain⟨fO,l,uP⟩:=er a_FieldSets__in_both;obtain⟨J,d,D⟩:=er F;obtain⟨gT,q,xh⟩:=er a_FieldSets__least;obtain⟨iK,B,k⟩:=er a_Walk____init__;obtain⟨g7,x,xW⟩:=er a_Walk__take_tile;obtain⟨g8,v,xX⟩:=er a_Walk__beginning;obtain⟨jh,N,AS⟩:=er a_Walk__choices;obtain⟨jW,t6,BK⟩:=er a_Walk__placed;obtain⟨U,f,P⟩:=er R;obtain⟨fP,m,uQ⟩:=er a_Walk__placed_right;obtain⟨jX,t7,BL⟩:=er a_Walk__closed;obtain⟨jY,t8,BN⟩:=er a_Walk__onward;obtain⟨jZ,t9,BO⟩:=er a_Walk__behind;have e:=hfa.symm.trans (u8 X G a_law.1);injection e with e;injection e with e;exact⟨⟨(aB K "_wall"),Be,(aB K "are_letters"),gB,(aB K "is_picture"),jE,(aB K "look_picture"),f7,(aB K "column_at"),kF,(aB K "columns_of"),jF,(aB K "are_fields"),jG,(aB K "rises"),sZ,(aB K "is_system"),kG,(aB K "look_system"),gC,(aB K "bordered"),l8,(aB K "tiles_of"),l9,(aB K "mirrored_tiles"),iI,(aB K "stands_for"),jH,(aB K "row_fits"),l_,(aB K "rows_fit"),mh,(aB K "shows"),s_,(aB K "bit_of"),uA,(aB K "least_field"),kY,(aB K "walk_right"),mq,(aB K "walk_left"),nJ,(aB K "columns_that_end"),gR,(aB K "least_columns"),gS,(aB K "row_at"),p_,(aB K "lets"),z4,(aB K "_law_cell"),kH,(aB K "_law_mix"),iJ,(aB K "_law_picture"),ig,(aB K "_law_tiles"),jI,(aB K "_law_system"),i6,(aB K "_law_column"),i7,(aB K "_law_last"),kI,(aB K "_law_least"),jJ,(aB K "law"),uB,qP,nK,jV,uC,mD,kZ,(aB K "QuiltError"),(aB K "BadPicture"),(aB K "BadSystem"),(aB K "FieldSets"),(aB K "Walk"),(dg K (aB K "FieldSets") "__init__"),fu,(dg K (aB K "FieldSets") "number_for"),H,(dg K (aB K "FieldSets") "of_one"),gw,(dg K (aB K "FieldSets") "of_all"),jc,(dg K (aB K "FieldSets") "tuples_in"),O,(dg K (aB K "FieldSets") "in_either"),V,(dg K (aB K "FieldSets") "in_both"),fO,(dg K (aB K "FieldSets") "with_first"),J,(dg K (aB K "FieldSets") "least"),gT,(dg K (aB K "Walk") "__init__"),iK,(dg K (aB K "Walk") "take_tile"),g7,(dg K (aB K "Walk") "beginning"),g8,(dg K (aB K "Walk") "choices"),jh,(dg K (aB K "Walk") "placed"),jW,(dg K (aB K "Walk") "placed_beneath"),U,(dg K (aB K "Walk") "placed_right"),fP,(dg K (aB K "Walk") "closed"),jX,(dg K (aB K "Walk") "onward"),jY,(dg K (aB K "Walk") "behind"),jZ⟩,⟨⟨Jm,oi Jm (λ_ _ _ _ _ _ _=>rfl),u8 X G a__wall.1⟩,⟨u9,oi u9 (λ_ _ _ _ _ _ _=>rfl),u8 X G a_are_letters.1⟩,⟨wW,oi wW (λ_ _ _ _ _ _ _=>rfl),u8 X G a_is_picture.1⟩,⟨tY,oi tY (λ_ _ _ _ _ _ _=>rfl),u8 X G a_look_picture.1⟩,⟨ym,AK ym (λ_ _ _ _ _ _ _ _=>rfl),u8 X G a_column_at.1⟩,⟨wX,oi wX (λ_ _ _ _ _ _ _=>rfl),u8 X G a_columns_of.1⟩,⟨wY,rq wY (λ_ _ _ _ _ _ _ _ _=>rfl),u8 X G a_are_fields.1⟩,⟨Jo,oi Jo (λ_ _ _ _ _ _ _=>rfl),u8 X G a_rises.1⟩,⟨yo,oi yo (λ_ _ _ _ _ _ _=>rfl),u8 X G a_is_system.1⟩,⟨u_,oi u_ (λ_ _ _ _ _ _ _=>rfl),u8 X G a_look_system.1⟩,⟨AM,oi AM (λ_ _ _ _ _ _ _=>rfl),u8 X G a_bordered.1⟩,⟨AN,oi AN (λ_ _ _ _ _ _ _=>rfl),u8 X G a_tiles_of.1⟩,⟨z,oi z (λ_ _ _ _ _ _ _=>rfl),u8 X G A.1⟩,⟨wZ,rq wZ (λ_ _ _ _ _ _ _ _ _=>rfl),u8 X G a_stands_for.1⟩,⟨AO,rq AO (λ_ _ _ _ _ _ _ _ _=>rfl),u8 X G a_row_fits.1⟩,⟨AQ,rq AQ (λ_ _ _ _ _ _ _ _ _=>rfl),u8 X G a_rows_fit.1⟩,⟨Jp,rq Jp (λ_ _ _ _ _ _ _ _ _=>rfl),u8 X G a_shows.1⟩,⟨GH,oi GH (λ_ _ _ _ _ _ _=>rfl),u8 X G a_bit_of.1⟩,⟨vc,oi vc (λ_ _ _ _ _ _ _=>rfl),u8 X G a_least_field.1⟩,⟨w6,rq w6 (λ_ _ _ _ _ _ _ _ _=>rfl),u8 X G a_walk_right.1⟩,⟨yp,rq yp (λ_ _ _ _ _ _ _ _ _=>rfl),u8 X G a_walk_left.1⟩,⟨r,AL r (λ_ _ _ _ _ _ _ _ _ _=>rfl),u8 X G p.1⟩,⟨W,AK W (λ_ _ _ _ _ _ _ _=>rfl),u8 X G M.1⟩,⟨GI,AK GI (λ_ _ _ _ _ _ _ _=>rfl),u8 X G a_row_at.1⟩,⟨MS,AK MS (λ_ _ _ _ _ _ _ _=>rfl),u8 X G a_lets.1⟩,⟨yq,AK yq (λ_ _ _ _ _ _ _ _=>rfl),u8 X G a__law_cell.1⟩,⟨AR,AK AR (λ_ _ _ _ _ _ _ _=>rfl),u8 X G a__law_mix.1⟩,⟨tZ,Qs tZ (λ_ _ _ _ _ _ _ _ _ _ _=>rfl),u8 X G a__law_picture.1⟩,⟨w_,oi w_ (λ_ _ _ _ _ _ _=>rfl),u8 X G a__law_tiles.1⟩,⟨vd,rq vd (λ_ _ _ _ _ _ _ _ _=>rfl),u8 X G a__law_system.1⟩,⟨ve,AL ve (λ_ _ _ _ _ _ _ _ _ _=>rfl),u8 X G a__law_column.1⟩,⟨yt,AK yt (λ_ _ _ _ _ _ _ _=>rfl),u8 X G a__law_last.1⟩,⟨xg,AL xg (λ_ _ _ _ _ _ _ _ _ _=>rfl),u8 X G a__law_least.1⟩,⟨Kn,oi Kn (λ_ _ _ _ _ _ _=>rfl),u8 X G a_law.1⟩, u8 X G MT, r_LETTERS, u8 X G HD, r_MOST_ROWS, u8 X G BJ, r_MOST_COLUMNS, u8 X G OW, r_BORDER, u8 X G GJ, r_MOST_MARKS, u8 X G Dm, r_TILE_FIELDS, u8 X G a_QuiltError, u8 X G L, u8 X G a_BadSystem, u8 X G a_FieldSets, u8 X G a_Walk,(pI o_FieldSets).1, fy, gU, w, I, y,⟨j,oi j (λ_ _ _ _ _ _ _=>rfl),b⟩,⟨c,rq c (λ_ _ _ _ _ _ _ _ _=>rfl),E⟩,⟨o,AK o (λ_ _ _ _ _ _ _ _=>rfl),vj⟩,⟨n,rq n (λ_ _ _ _ _ _ _ _ _=>rfl),vm⟩,⟨i,rq i (λ_ _ _ _ _ _ _ _ _=>rfl),Q⟩,⟨g,AL g (λ_ _ _ _ _ _ _ _ _ _=>rfl),S⟩,⟨l,AL l (λ_ _ _ _ _ _ _ _ _ _=>rfl),uP⟩,⟨d,AL d (λ_ _ _ _ _ _ _ _ _ _=>rfl),D⟩,⟨q,rq q (λ_ _ _ _ _ _ _ _ _=>rfl),xh⟩,⟨(pI o_FieldSets).2.1,b.at_,b.fn,(pI o_FieldSets).2.2⟩,(pI o_Walk).1, mJ, jk, mK, fj, fB, Z, fR, fS,⟨B,Qs B (λ_ _ _ _ _ _ _ _ _ _ _=>rfl),k⟩,⟨x,AK x (λ_ _ _ _ _ _ _ _=>rfl),xW⟩,⟨v,oi v (λ_ _ _ _ _ _ _=>rfl),xX⟩,⟨N,AL N (λ_ _ _ _ _ _ _ _ _ _=>rfl),AS⟩,⟨t6,AL t6 (λ_ _ _ _ _ _ _ _ _ _=>rfl),BK⟩,⟨f,Qs f (λ_ _ _ _ _ _ _ _ _ _ _=>rfl),P⟩,⟨m,Qs m (λ_ _ _ _ _ _ _ _ _ _ _=>rfl),uQ⟩,⟨t7,rq t7 (λ_ _ _ _ _ _ _ _ _=>rfl),BL⟩,⟨t8,AL t8 (λ_ _ _ _ _ _ _ _ _ _=>rfl),BN⟩,⟨t9,rq t9 (λ_ _ _ _ _ _ _ _ _=>rfl),BO⟩,⟨(pI o_Walk).2.1,k.at_,k.fn,(pI o_Walk).2.2⟩,(xR e_BadPicture (u8 X G L)).1,(xR e_BadPicture (u8 X G L)).2,(xR e_BadSystem (u8 X G a_BadSystem)).1,(xR e_BadSystem (u8 X G a_BadSystem)).2, zA4 X G z_len, zA4 X G z_all, zA4 X G z_range, zA4 X G z_zip, zA4 X G z_max, zA4 X G z_min, zA4 X G z_list, zA4 X G z_tuple, zA4 X G z_set, zA4 X G z_sorted, zA4 X G z_dict, zA4 X G z_sum, zA4 X G z_enumerate, zA4 X G z_reversed⟩,e,λs u=>W_ ▸ .of_eq rfl⟩
noncomputable def Qt (K:zzA):=((dP K "_wall",bZ K "_wall" (aB K "_wall")),(dP K "are_letters",bZ K "are_letters" (aB K "are_letters")),(dP K "is_picture",bZ K "is_picture" (aB K "is_picture")),(dP K "look_picture",bZ K "look_picture" (aB K "look_picture")),(dP K "column_at",bZ K "column_at" (aB K "column_at")),(dP K "columns_of",bZ K "columns_of" (aB K "columns_of")),(dP K "are_fields",bZ K "are_fields" (aB K "are_fields")),true)
noncomputable def We:TK Qt:=((true,b9 "_wall" "_wall" xH),(true,b9 "are_letters" "are_letters" iW),(true,b9 "is_picture" "is_picture" jx),(true,b9 "look_picture" "look_picture" g9),(true,b9 "column_at" "column_at" ku),(true,b9 "columns_of" "columns_of" jy),(true,b9 "are_fields" "are_fields" jz),true)
noncomputable def Qu (K:zzA):=((dP K "rises",bZ K "rises" (aB K "rises")),(dP K "is_system",bZ K "is_system" (aB K "is_system")),(dP K "look_system",bZ K "look_system" (aB K "look_system")),(dP K "bordered",bZ K "bordered" (aB K "bordered")),(dP K "tiles_of",bZ K "tiles_of" (aB K "tiles_of")),(dP K "mirrored_tiles",bZ K "mirrored_tiles" (aB K "mirrored_tiles")),(dP K "stands_for",bZ K "stands_for" (aB K "stands_for")),true)
noncomputable def Wf:TK Qu:=((true,b9 "rises" "rises" sX),(true,b9 "is_system" "is_system" kB),(true,b9 "look_system" "look_system" iX),(true,b9 "bordered" "bordered" lX),(true,b9 "tiles_of" "tiles_of" lY),(true,b9 "mirrored_tiles" "mirrored_tiles" gk),(true,b9 "stands_for" "stands_for" jA),true)
noncomputable def Qv (K:zzA):=((dP K "row_fits",bZ K "row_fits" (aB K "row_fits")),(dP K "rows_fit",bZ K "rows_fit" (aB K "rows_fit")),(dP K "shows",bZ K "shows" (aB K "shows")),(dP K "bit_of",bZ K "bit_of" (aB K "bit_of")),(dP K "least_field",bZ K "least_field" (aB K "least_field")),(dP K "walk_right",bZ K "walk_right" (aB K "walk_right")),(dP K "walk_left",bZ K "walk_left" (aB K "walk_left")),true)
noncomputable def Wg:TK Qv:=((true,b9 "row_fits" "row_fits" lZ),(true,b9 "rows_fit" "rows_fit" l6),(true,b9 "shows" "shows" sY),(true,b9 "bit_of" "bit_of" pU),(true,b9 "least_field" "least_field" iY),(true,b9 "walk_right" "walk_right" jB),(true,b9 "walk_left" "walk_left" kC),true)
noncomputable def Qw (K:zzA):=((dP K "columns_that_end",bZ K "columns_that_end" (aB K "columns_that_end")),(dP K "least_columns",bZ K "least_columns" (aB K "least_columns")),(dP K "row_at",bZ K "row_at" (aB K "row_at")),(dP K "lets",bZ K "lets" (aB K "lets")),(dP K "_law_cell",bZ K "_law_cell" (aB K "_law_cell")),(dP K "_law_mix",bZ K "_law_mix" (aB K "_law_mix")),(dP K "_law_picture",bZ K "_law_picture" (aB K "_law_picture")),true)
noncomputable def Wh:TK Qw:=((true,b9 "columns_that_end" "columns_that_end" ff),(true,b9 "least_columns" "least_columns" gP),(true,b9 "row_at" "row_at" pV),(true,b9 "lets" "lets" vY),(true,b9 "_law_cell" "_law_cell" kD),(true,b9 "_law_mix" "_law_mix" l7),(true,b9 "_law_picture" "_law_picture" g_),true)
noncomputable def Qx (K:zzA):=((dP K "_law_tiles",bZ K "_law_tiles" (aB K "_law_tiles")),(dP K "_law_system",bZ K "_law_system" (aB K "_law_system")),(dP K "_law_column",bZ K "_law_column" (aB K "_law_column")),(dP K "_law_last",bZ K "_law_last" (aB K "_law_last")),(dP K "_law_least",bZ K "_law_least" (aB K "_law_least")),(dP K "law",bZ K "law" (aB K "law")), Ji K "LETTERS",true)
noncomputable def Wi:TK Qx:=((true,b9 "_law_tiles" "_law_tiles" jC),(true,b9 "_law_system" "_law_system" iZ),(true,b9 "_law_column" "_law_column" i0),(true,b9 "_law_last" "_law_last" kE),(true,b9 "_law_least" "_law_least" jD),(true,b9 "law" "law" o4), some (.str "abcd"),true)
noncomputable def Qy (K:zzA):=(Ji K "MOST_ROWS", Ji K "MOST_COLUMNS", Ji K "BORDER", Ji K "MOST_MARKS", Ji K "TILE_FIELDS", dP K "QuiltError", dP K "BadPicture",true)
noncomputable def Wj:TK Qy:=(some (.int 4), some (.int 12), some (.int (-1)), some (.int 16), some (.int 4), true, true,true)
noncomputable def Qz (K:zzA):=(dP K "BadSystem", dP K "FieldSets", dP K "Walk", YD K (aB K "FieldSets"), PySem.W.findIn K (.ref (aB K "FieldSets")) "branches", PySem.W.findIn K (.ref (aB K "FieldSets")) "known", PySem.W.findIn K (.ref (aB K "FieldSets")) "either_known",true)
noncomputable def Wk:TK Qz:=(true, true, true, YE, some none, some none, some none,true)
noncomputable def QA (K:zzA):=(PySem.W.findIn K (.ref (aB K "FieldSets")) "both_known", PySem.W.findIn K (.ref (aB K "FieldSets")) "first_known",(lQ K (aB K "FieldSets") "__init__",bZ K "FieldSets.__init__" (dg K (aB K "FieldSets") "__init__")),(lQ K (aB K "FieldSets") "number_for",bZ K "FieldSets.number_for" (dg K (aB K "FieldSets") "number_for")),(lQ K (aB K "FieldSets") "of_one",bZ K "FieldSets.of_one" (dg K (aB K "FieldSets") "of_one")),(lQ K (aB K "FieldSets") "of_all",bZ K "FieldSets.of_all" (dg K (aB K "FieldSets") "of_all")),(lQ K (aB K "FieldSets") "tuples_in",bZ K "FieldSets.tuples_in" (dg K (aB K "FieldSets") "tuples_in")),true)
noncomputable def Wl:TK QA:=(some none, some none,((true,true),b9 "__init__" "FieldSets.__init__" dO),((true,true),b9 "number_for" "FieldSets.number_for" c_),((true,true),b9 "of_one" "FieldSets.of_one" eN),((true,true),b9 "of_all" "FieldSets.of_all" gv),((true,true),b9 "tuples_in" "FieldSets.tuples_in" eW),true)
noncomputable def QB (K:zzA):=((lQ K (aB K "FieldSets") "in_either",bZ K "FieldSets.in_either" (dg K (aB K "FieldSets") "in_either")),(lQ K (aB K "FieldSets") "in_both",bZ K "FieldSets.in_both" (dg K (aB K "FieldSets") "in_both")),(lQ K (aB K "FieldSets") "with_first",bZ K "FieldSets.with_first" (dg K (aB K "FieldSets") "with_first")),(lQ K (aB K "FieldSets") "least",bZ K "FieldSets.least" (dg K (aB K "FieldSets") "least")), YD K (aB K "Walk"), PySem.W.findIn K (.ref (aB K "Walk")) "sets", PySem.W.findIn K (.ref (aB K "Walk")) "letters",true)
noncomputable def Wm:TK QB:=(((true,true),b9 "in_either" "FieldSets.in_either" dG),((true,true),b9 "in_both" "FieldSets.in_both" dZ),((true,true),b9 "with_first" "FieldSets.with_first" dc),((true,true),b9 "least" "FieldSets.least" fh), YE, some none, some none,true)
noncomputable def QD (K:zzA):=(PySem.W.findIn K (.ref (aB K "Walk")) "high", PySem.W.findIn K (.ref (aB K "Walk")) "lower_left", PySem.W.findIn K (.ref (aB K "Walk")) "closing", PySem.W.findIn K (.ref (aB K "Walk")) "choices_known", PySem.W.findIn K (.ref (aB K "Walk")) "placed_known", PySem.W.findIn K (.ref (aB K "Walk")) "closed_known",(lQ K (aB K "Walk") "__init__",bZ K "Walk.__init__" (dg K (aB K "Walk") "__init__")),true)
noncomputable def Wn:TK QD:=(some none, some none, some none, some none, some none, some none,((true,true),b9 "__init__" "Walk.__init__" gm),true)
noncomputable def Ko (K:zzA):=((lQ K (aB K "Walk") "take_tile",bZ K "Walk.take_tile" (dg K (aB K "Walk") "take_tile")),(lQ K (aB K "Walk") "beginning",bZ K "Walk.beginning" (dg K (aB K "Walk") "beginning")),(lQ K (aB K "Walk") "choices",bZ K "Walk.choices" (dg K (aB K "Walk") "choices")),(lQ K (aB K "Walk") "placed",bZ K "Walk.placed" (dg K (aB K "Walk") "placed")),(lQ K (aB K "Walk") "placed_beneath",bZ K "Walk.placed_beneath" (dg K (aB K "Walk") "placed_beneath")),(lQ K (aB K "Walk") "placed_right",bZ K "Walk.placed_right" (dg K (aB K "Walk") "placed_right")),(lQ K (aB K "Walk") "closed",bZ K "Walk.closed" (dg K (aB K "Walk") "closed")),true)
noncomputable def OX:TK Ko:=(((true,true),b9 "take_tile" "Walk.take_tile" fH),((true,true),b9 "beginning" "Walk.beginning" fJ),((true,true),b9 "choices" "Walk.choices" gQ),((true,true),b9 "placed" "Walk.placed" h_),((true,true),b9 "placed_beneath" "Walk.placed_beneath" dH),((true,true),b9 "placed_right" "Walk.placed_right" d7),((true,true),b9 "closed" "Walk.closed" ia),true)
noncomputable def Kp (K:zzA):=((lQ K (aB K "Walk") "onward",bZ K "Walk.onward" (dg K (aB K "Walk") "onward")),(lQ K (aB K "Walk") "behind",bZ K "Walk.behind" (dg K (aB K "Walk") "behind")), YF K (aB K "BadPicture"), YF K (aB K "BadSystem"), PySem.W.nsIn K zAB "len", PySem.W.nsIn K zAB "all", PySem.W.nsIn K zAB "range",true)
noncomputable def OY:TK Kp:=(((true,true),b9 "onward" "Walk.onward" ic),((true,true),b9 "behind" "Walk.behind" ie), YG, YG, some none, some none, some none,true)
noncomputable def Kq (K:zzA):=(PySem.W.nsIn K zAB "zip", PySem.W.nsIn K zAB "max", PySem.W.nsIn K zAB "min", PySem.W.nsIn K zAB "list", PySem.W.nsIn K zAB "tuple", PySem.W.nsIn K zAB "set", PySem.W.nsIn K zAB "sorted",true)
noncomputable def OZ:TK Kq:=(some none, some none, some none, some none, some none, some none, some none,true)
noncomputable def Kr (K:zzA):=(PySem.W.nsIn K zAB "dict", PySem.W.nsIn K zAB "sum", PySem.W.nsIn K zAB "enumerate", PySem.W.nsIn K zAB "reversed",true)
noncomputable def O0:TK Kr:=(some none, some none, some none, some none,true)
noncomputable def QE (K:zzA):=(Qt K,Qu K,Qv K,Qw K,Qx K,Qy K,Qz K,true)
noncomputable def Wq:TK QE:=(We,Wf,Wg,Wh,Wi,Wj,Wk,true)
noncomputable def QF (K:zzA):=(QA K,QB K,QD K,Ko K,Kp K,Kq K,Kr K,true)
noncomputable def Wr:TK QF:=(Wl,Wm,Wn,OX,OY,OZ,O0,true)
noncomputable def fK (K:zzA):=(QE K,QF K)
noncomputable def vK:TK fK:=(Wq,Wr)
theorem oK0 {K:zzA}(e:Qt K=We) :(NF K "_wall" xH)/\(NF K "are_letters" iW)/\(NF K "is_picture" jx)/\(NF K "look_picture" g9)/\(NF K "column_at" ku)/\(NF K "columns_of" jy)/\(NF K "are_fields" jz):=by unfold Qt We at e;obtain⟨b,e⟩:=y3 e;obtain⟨h,e⟩:=y3 e;obtain⟨c,e⟩:=y3 e;obtain⟨f,e⟩:=y3 e;obtain⟨g,e⟩:=y3 e;obtain⟨d,e⟩:=y3 e;obtain⟨i,e⟩:=y3 e;exact⟨(bS b),(bS h),(bS c),(bS f),(bS g),(bS d),(bS i)⟩
theorem oK1 {K:zzA}(e:Qu K=Wf) :(NF K "rises" sX)/\(NF K "is_system" kB)/\(NF K "look_system" iX)/\(NF K "bordered" lX)/\(NF K "tiles_of" lY)/\(NF K "mirrored_tiles" gk)/\(NF K "stands_for" jA):=by unfold Qu Wf at e;obtain⟨b,e⟩:=y3 e;obtain⟨h,e⟩:=y3 e;obtain⟨c,e⟩:=y3 e;obtain⟨f,e⟩:=y3 e;obtain⟨g,e⟩:=y3 e;obtain⟨d,e⟩:=y3 e;obtain⟨i,e⟩:=y3 e;exact⟨(bS b),(bS h),(bS c),(bS f),(bS g),(bS d),(bS i)⟩
theorem oK2 {K:zzA}(e:Qv K=Wg) :(NF K "row_fits" lZ)/\(NF K "rows_fit" l6)/\(NF K "shows" sY)/\(NF K "bit_of" pU)/\(NF K "least_field" iY)/\(NF K "walk_right" jB)/\(NF K "walk_left" kC):=by unfold Qv Wg at e;obtain⟨b,e⟩:=y3 e;obtain⟨h,e⟩:=y3 e;obtain⟨c,e⟩:=y3 e;obtain⟨f,e⟩:=y3 e;obtain⟨g,e⟩:=y3 e;obtain⟨d,e⟩:=y3 e;obtain⟨i,e⟩:=y3 e;exact⟨(bS b),(bS h),(bS c),(bS f),(bS g),(bS d),(bS i)⟩
theorem oK3 {K:zzA}(e:Qw K=Wh) :(NF K "columns_that_end" ff)/\(NF K "least_columns" gP)/\(NF K "row_at" pV)/\(NF K "lets" vY)/\(NF K "_law_cell" kD)/\(NF K "_law_mix" l7)/\(NF K "_law_picture" g_):=by unfold Qw Wh at e;obtain⟨b,e⟩:=y3 e;obtain⟨h,e⟩:=y3 e;obtain⟨c,e⟩:=y3 e;obtain⟨f,e⟩:=y3 e;obtain⟨g,e⟩:=y3 e;obtain⟨d,e⟩:=y3 e;obtain⟨i,e⟩:=y3 e;exact⟨(bS b),(bS h),(bS c),(bS f),(bS g),(bS d),(bS i)⟩
theorem oK4 {K:zzA}(e:Qx K=Wi) :(NF K "_law_tiles" jC)/\(NF K "_law_system" iZ)/\(NF K "_law_column" i0)/\(NF K "_law_last" kE)/\(NF K "_law_least" jD)/\(NF K "law" o4)/\(CV K "LETTERS" (.str "abcd")):=by unfold Qx Wi at e;obtain⟨b,e⟩:=y3 e;obtain⟨h,e⟩:=y3 e;obtain⟨c,e⟩:=y3 e;obtain⟨f,e⟩:=y3 e;obtain⟨g,e⟩:=y3 e;obtain⟨d,e⟩:=y3 e;obtain⟨i,e⟩:=y3 e;exact⟨(bS b),(bS h),(bS c),(bS f),(bS g),(bS d),i⟩
theorem oK5 {K:zzA}(e:Qy K=Wj) :(CV K "MOST_ROWS" (.int 4))/\(CV K "MOST_COLUMNS" (.int 12))/\(CV K "BORDER" (.int (-1)))/\(CV K "MOST_MARKS" (.int 16))/\(CV K "TILE_FIELDS" (.int 4))/\(CN K "QuiltError")/\(CN K "BadPicture"):=by unfold Qy Wj at e;obtain⟨b,e⟩:=y3 e;obtain⟨h,e⟩:=y3 e;obtain⟨c,e⟩:=y3 e;obtain⟨f,e⟩:=y3 e;obtain⟨g,e⟩:=y3 e;obtain⟨d,e⟩:=y3 e;obtain⟨i,e⟩:=y3 e;exact⟨b,h,c,f,g,(xS d),(xS i)⟩
theorem oK6 {K:zzA}(e:Qz K=Wk) :(CN K "BadSystem")/\(CN K "FieldSets")/\(CN K "Walk")/\(MN K (aB K "FieldSets"))/\(PySem.W.findIn K (.ref (aB K "FieldSets")) "branches"=some none)/\(PySem.W.findIn K (.ref (aB K "FieldSets")) "known"=some none)/\(PySem.W.findIn K (.ref (aB K "FieldSets")) "either_known"=some none):=by unfold Qz Wk at e;obtain⟨b,e⟩:=y3 e;obtain⟨h,e⟩:=y3 e;obtain⟨c,e⟩:=y3 e;obtain⟨f,e⟩:=y3 e;obtain⟨g,e⟩:=y3 e;obtain⟨d,e⟩:=y3 e;obtain⟨i,e⟩:=y3 e;exact⟨(xS b),(xS h),(xS c),f,g,d,i⟩
theorem oK7 {K:zzA}(e:QA K=Wl) :(PySem.W.findIn K (.ref (aB K "FieldSets")) "both_known"=some none)/\(PySem.W.findIn K (.ref (aB K "FieldSets")) "first_known"=some none)/\(MF K (aB K "FieldSets") "__init__" "FieldSets.__init__" dO)/\(MF K (aB K "FieldSets") "number_for" "FieldSets.number_for" c_)/\(MF K (aB K "FieldSets") "of_one" "FieldSets.of_one" eN)/\(MF K (aB K "FieldSets") "of_all" "FieldSets.of_all" gv)/\(MF K (aB K "FieldSets") "tuples_in" "FieldSets.tuples_in" eW):=by unfold QA Wl at e;obtain⟨b,e⟩:=y3 e;obtain⟨h,e⟩:=y3 e;obtain⟨c,e⟩:=y3 e;obtain⟨f,e⟩:=y3 e;obtain⟨g,e⟩:=y3 e;obtain⟨d,e⟩:=y3 e;obtain⟨i,e⟩:=y3 e;exact⟨b,h,(fV c),(fV f),(fV g),(fV d),(fV i)⟩
theorem oK8 {K:zzA}(e:QB K=Wm) :(MF K (aB K "FieldSets") "in_either" "FieldSets.in_either" dG)/\(MF K (aB K "FieldSets") "in_both" "FieldSets.in_both" dZ)/\(MF K (aB K "FieldSets") "with_first" "FieldSets.with_first" dc)/\(MF K (aB K "FieldSets") "least" "FieldSets.least" fh)/\(MN K (aB K "Walk"))/\(PySem.W.findIn K (.ref (aB K "Walk")) "sets"=some none)/\(PySem.W.findIn K (.ref (aB K "Walk")) "letters"=some none):=by unfold QB Wm at e;obtain⟨b,e⟩:=y3 e;obtain⟨h,e⟩:=y3 e;obtain⟨c,e⟩:=y3 e;obtain⟨f,e⟩:=y3 e;obtain⟨g,e⟩:=y3 e;obtain⟨d,e⟩:=y3 e;obtain⟨i,e⟩:=y3 e;exact⟨(fV b),(fV h),(fV c),(fV f),g,d,i⟩
theorem oK9 {K:zzA}(e:QD K=Wn) :(PySem.W.findIn K (.ref (aB K "Walk")) "high"=some none)/\(PySem.W.findIn K (.ref (aB K "Walk")) "lower_left"=some none)/\(PySem.W.findIn K (.ref (aB K "Walk")) "closing"=some none)/\(PySem.W.findIn K (.ref (aB K "Walk")) "choices_known"=some none)/\(PySem.W.findIn K (.ref (aB K "Walk")) "placed_known"=some none)/\(PySem.W.findIn K (.ref (aB K "Walk")) "closed_known"=some none)/\(MF K (aB K "Walk") "__init__" "Walk.__init__" gm):=by unfold QD Wn at e;obtain⟨b,e⟩:=y3 e;obtain⟨h,e⟩:=y3 e;obtain⟨c,e⟩:=y3 e;obtain⟨f,e⟩:=y3 e;obtain⟨g,e⟩:=y3 e;obtain⟨d,e⟩:=y3 e;obtain⟨i,e⟩:=y3 e;exact⟨b,h,c,f,g,d,(fV i)⟩
theorem Zy {K:zzA}(e:Ko K=OX) :(MF K (aB K "Walk") "take_tile" "Walk.take_tile" fH)/\(MF K (aB K "Walk") "beginning" "Walk.beginning" fJ)/\(MF K (aB K "Walk") "choices" "Walk.choices" gQ)/\(MF K (aB K "Walk") "placed" "Walk.placed" h_)/\(MF K (aB K "Walk") "placed_beneath" "Walk.placed_beneath" dH)/\(MF K (aB K "Walk") "placed_right" "Walk.placed_right" d7)/\(MF K (aB K "Walk") "closed" "Walk.closed" ia):=by unfold Ko OX at e;obtain⟨b,e⟩:=y3 e;obtain⟨h,e⟩:=y3 e;obtain⟨c,e⟩:=y3 e;obtain⟨f,e⟩:=y3 e;obtain⟨g,e⟩:=y3 e;obtain⟨d,e⟩:=y3 e;obtain⟨i,e⟩:=y3 e;exact⟨(fV b),(fV h),(fV c),(fV f),(fV g),(fV d),(fV i)⟩
theorem Zz {K:zzA}(e:Kp K=OY) :(MF K (aB K "Walk") "onward" "Walk.onward" ic)/\(MF K (aB K "Walk") "behind" "Walk.behind" ie)/\(MO K (aB K "BadPicture"))/\(MO K (aB K "BadSystem"))/\(PySem.W.nsIn K zAB "len"=some none)/\(PySem.W.nsIn K zAB "all"=some none)/\(PySem.W.nsIn K zAB "range"=some none):=by unfold Kp OY at e;obtain⟨b,e⟩:=y3 e;obtain⟨h,e⟩:=y3 e;obtain⟨c,e⟩:=y3 e;obtain⟨f,e⟩:=y3 e;obtain⟨g,e⟩:=y3 e;obtain⟨d,e⟩:=y3 e;obtain⟨i,e⟩:=y3 e;exact⟨(fV b),(fV h),c,f,g,d,i⟩
theorem ZA {K:zzA}(e:Kq K=OZ) :(PySem.W.nsIn K zAB "zip"=some none)/\(PySem.W.nsIn K zAB "max"=some none)/\(PySem.W.nsIn K zAB "min"=some none)/\(PySem.W.nsIn K zAB "list"=some none)/\(PySem.W.nsIn K zAB "tuple"=some none)/\(PySem.W.nsIn K zAB "set"=some none)/\(PySem.W.nsIn K zAB "sorted"=some none):=by unfold Kq OZ at e;obtain⟨b,e⟩:=y3 e;obtain⟨h,e⟩:=y3 e;obtain⟨c,e⟩:=y3 e;obtain⟨f,e⟩:=y3 e;obtain⟨g,e⟩:=y3 e;obtain⟨d,e⟩:=y3 e;obtain⟨i,e⟩:=y3 e;exact⟨b,h,c,f,g,d,i⟩
theorem ZC {K:zzA}(e:Kr K=O0) :(PySem.W.nsIn K zAB "dict"=some none)/\(PySem.W.nsIn K zAB "sum"=some none)/\(PySem.W.nsIn K zAB "enumerate"=some none)/\(PySem.W.nsIn K zAB "reversed"=some none):=by unfold Kr O0 at e;obtain⟨b,e⟩:=y3 e;obtain⟨f,e⟩:=y3 e;obtain⟨c,e⟩:=y3 e;obtain⟨d,e⟩:=y3 e;exact⟨b,f,c,d⟩
theorem Ws {K:zzA}(e:fK K=vK)(X:K.In h)(G:h.Ns zAB mg)(hfa:mg "law"=some (.ref fa)) : ∃t:Ad,Txt K mg t/\fa=t.z5/\∀(s:VV) (u:Value),zCY s t.uB ⟨[u],[]⟩ [("_law_script",u)]:=by obtain⟨b,a⟩:=y3 e;unfold QE Wq at b;unfold QF Wr at a;obtain⟨c0,b⟩:=y3 b;obtain⟨c1,b⟩:=y3 b;obtain⟨c2,b⟩:=y3 b;obtain⟨c3,b⟩:=y3 b;obtain⟨c4,b⟩:=y3 b;obtain⟨c5,b⟩:=y3 b;obtain⟨c6,b⟩:=y3 b;obtain⟨c7,a⟩:=y3 a;obtain⟨c8,a⟩:=y3 a;obtain⟨c9,a⟩:=y3 a;obtain⟨c10,a⟩:=y3 a;obtain⟨c11,a⟩:=y3 a;obtain⟨I,a⟩:=y3 a;obtain⟨D,a⟩:=y3 a;obtain⟨e0,e1,e2,e3,e4,e5,e6⟩:=oK0 c0;obtain⟨e7,e8,e9,r,x,e12,e13⟩:=oK1 c1;obtain⟨E,e15,B,e17,f,e19,q⟩:=oK2 c2;obtain⟨e21,e22,e23,e24,e25,c,e27⟩:=oK3 c3;obtain⟨J,e29,e30,e31,e32,e33,e34⟩:=oK4 c4;obtain⟨n,A,o,e38,e39,e40,p⟩:=oK5 c5;obtain⟨e42,k,Y,e45,e46,N,e48⟩:=oK6 c6;obtain⟨e49,R,M,H,F,d,e55⟩:=oK7 c7;obtain⟨P,l,V,e59,e60,W,z⟩:=oK8 c8;obtain⟨e63,y,e65,S,C,w,e69⟩:=oK9 c9;obtain⟨L,e71,j,T,e74,e75,e76⟩:=Zy c10;obtain⟨Q,e78,e79,i,O,e82,e83⟩:=Zz c11;obtain⟨e84,e85,e86,U,Z,v,e90⟩:=ZA I;obtain⟨e91,e92,m,g⟩:=ZC D;exact Wb X G hfa e0 e1 e2 e3 e4 e5 e6 e7 e8 e9 r x e12 e13 E e15 B e17 f e19 q e21 e22 e23 e24 e25 c e27 J e29 e30 e31 e32 e33 e34 n A o e38 e39 e40 p e42 k Y e45 e46 N e48 e49 R M H F d e55 P l V e59 e60 W z e63 y e65 S C w e69 L e71 j T e74 e75 e76 Q e78 e79 i O e82 e83 e84 e85 e86 U Z v e90 e91 e92 m g
theorem Wt {K:zzA}(h:∃t:Ad,Txt K b t/\c=t.z5/\∀(s:VV) (u:Value),zCY s t.uB ⟨[u],[]⟩ [("_law_script",u)]) : ∃d:zAF,(∀(s:VV) (u:Value),zCY s d ⟨[u],[]⟩ [("_law_script",u)])/\∀base:Heap,K.In base->base.Ns zAB b->aL P w K b base bg 36 c d ["_law_script"] (wV K):=by obtain⟨t,T,rfl,e⟩:=h;exact⟨_,e,λbase _ _=>V2 T⟩
theorem walk {l:PySem.W.OpenLaw}{q:zAA}{loose:List Str}{XP:(Str->Option Value)->Heap->Prop}{YP:zAE->Heap->Prop}{d:DefRec}{K:Params->zzA}(p:l.most=some 63)(e:d.params.defaults=[])(j:∀(w:zAE) (h:Heap),YP w h->(K w.params).In h)(F:∀(w:zAE) (c:Str->Option Value) (g:M1) (h:Heap),(K w.params).In h->h.Ns zAB c->c d.name=some (.ref g)-> ∃i:zAF,(∀(s:VV) (u:Value),zCY s i ⟨[u],[]⟩ [("_law_script",u)])/\∀base:Heap,(K w.params).In base->base.Ns zAB c->aL l.prog w (K w.params) c base bg 36 g i ["_law_script"] (wV (K w.params))) : PySem.W.WalkO q loose XP YP l.row.toRowW d [] (λf vs=>PySem.call f vs):= L2.Q_ (n:=63) (k:=36) (x:="_law_script") (CX:=λ_=>bg) (sp:=λw=>wV (K w.params)) p (by decide) e ⟨rfl,by decide,by decide⟩ j F (λ_ _ a o m _ r=>⟨a,o,rfl,r,m,λ_=>rfl⟩) λ_ _ _ _ _ z=>z
end fX
open PySem PySem.W PyProof.Rows
lay_quick PySem.Challenge.pw_quiltyard_k10_whole_lets
namespace fX
noncomputable def ZD:DefRec:=⟨"law",L2.gA o4,L2.fq o4,L2.aE o4,L2.Wa o4⟩
noncomputable abbrev P:zAA:=PySem.W.Fast.tw10264754609908417612
noncomputable abbrev S (w:zAE):=PySem.W.Fast.tw10156331382660048174 (PySem.W.Fast.tw11892475500146522536 PySem.W.Fast.tw14364793385576792824) P w
theorem same (w:zAE):S w=stepT (denote zCR) P w:=by unfold S;rw[<-PySem.W.Fast.te10156331382660048174,<-PySem.W.Fast.te11892475500146522536,<-PySem.W.Fast.te14364793385576792824]
noncomputable def lo:List Str:=(["_wall","__name__","QuiltError","BadPicture","BadSystem","LETTERS","MOST_ROWS","MOST_COLUMNS","are_letters","is_picture","look_picture","column_at","columns_of","BORDER","MOST_MARKS","TILE_FIELDS","are_fields","rises","is_system","look_system","bordered","tiles_of","mirrored_tiles","stands_for","row_fits","rows_fit","shows","bit_of","least_field","FieldSets","Walk","walk_right","walk_left","columns_that_end","least_columns","row_at","lets","_law_cell","_law_mix","_law_picture","_law_tiles","_law_system","_law_column","_law_last","_law_least"]:List String).map Str.ofString
theorem Wu:∀w,(L2.rz (S w) P w 40000).map (λs=>QE (L2.fragOf s.heap))=some Wq:=λw=>by kernel_rfl
theorem Wv:∀w,(L2.rz (S w) P w 40000).map (λs=>QF (L2.fragOf s.heap))=some Wr:=λw=>by kernel_rfl
theorem facts:∀w,(L2.rz (S w) P w 40000).map (λs=>fK (L2.fragOf s.heap))=some vK:=λw=>L2.OV (Wu w) (Wv w)
theorem Xa:∀w,(L2.rz (S w) P w 40000).map (λs=>PySem.W.Fast.tw4187177175401517315 (view P [50]) lo (zBN P.main.body) (λs=>xlAt (view P [50]) [] s&&recOk (OpenLaw.row PySem.Challenge.rw_quiltyard_k10_whole_lets).toRowW.records s) true s)=some (openGood (view P [50]) lo):=λw=>by kernel_rfl
theorem left:∀w,(L2.rz (S w) P w 40000).map (λs=>openSeen (view P [50]) lo (zBN P.main.body) (λs=>xlAt (view P [50]) [] s&&recOk (OpenLaw.row PySem.Challenge.rw_quiltyard_k10_whole_lets).toRowW.records s) true s)=some (openGood (view P [50]) lo):=by rw[PySem.W.Fast.te4187177175401517315];exact Xa
end fX
set_option maxRecDepth 100000 in
set_option maxHeartbeats 0 in
theorem PySem.Challenge.cw_quiltyard_k10_whole_lets_holds : PySem.Challenge.rw_quiltyard_k10_whole_lets.Holds := by
  w_on; o_law
  refine L2.MR (P := fX.P) (q := view fX.P [50]) (loose := fX.lo) (d := fX.ZD) (N := 40000) (f := fX.fK) (v := fX.vK) (S := fX.S) (by assumption) PySem.W.Fast.te10264754609908417612 fX.same fX.left fX.facts
    (by kernel_rfl) (by kernel_rfl) (by kernel_rfl) (by kernel_rfl) (by kernel_rfl) ⟨rfl, rfl, rfl, rfl, rfl, by decide +kernel⟩ ?hw ?hc
  case hw => w_witness2
  case hc =>
    intro K e
    exact fX.walk (l := PySem.Challenge.rw_quiltyard_k10_whole_lets) (K := fun _ => K) rfl (by kernel_rfl) (fun w h Y => Y) fun w mg fa h KX G hmg => fX.Wt (fX.Ws e KX G hmg)
