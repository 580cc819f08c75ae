import PyProof.Rows.All
import Wide.All
import OpenK.AllK
import Wide.FinOn
import PySem.SetTable
import PyProof.TupleKey
import PyProof.SetKind
import PyProof.IsRules
import PyProof.SetRoads
import PyProof.Rows.SetFrom
import PyProof.CollectWalk
import PyProof.DictWalks
import Lean
import PyProof.EqAt
import PyProof.EqKinds
import PyProof.TupleCall
import KE.KSortTup
import PyProof.Rows.StrLen
import PyProof.Rows.StrStep
import KE.KTryMore
import PyProof.NeKinds
import PyProof.NeData
import PyProof.AttrMissHeap
import PyProof.DictRoadsH
import PyProof.Rows.TupTab
import KE.KDictOf
import Wide.Seal
import KE.KItemsList
import KE.KDictSum
import PyProof.Rows.SortWalk
import PyProof.Draws
import PyProof.EnumMake
import KE.KRevIter
import PyProof.SumWalk
import PyProof.AutoIntG2
import KE.KDictList
import KE.KPairComp
import PyProof.TupleIter
import PyProof.Rows.SeqMore
import PyProof.StrLaws
import PySem.Challenge.RW_quiltyard_k40_whole_joined
abbrev zzA:=PySem.W.Frag
abbrev zzB:=List (List Int)
abbrev zzC:=List (PySem.Addr × PySem.Obj)
abbrev zzD:=List (PySem.Addr × List Int)
abbrev zzE:=PySem.Value->PySem.Shared->Prop
open List (range replicate length map_take nodup_nil map_nil foldl_cons map_drop foldl forIn_nil find?_cons drop_zero)
open PySem.Builtin.SmallTypes (nextOf ownedTupleIsFree)
open PySem.Builtin.Str (strSliceIndices)
open PySem.Obj (mapSeq)
open Array (getD)
open PySem.Builtin.Tuple (tupleExact tupleHashOf)
open PySem.PyData (eqv eqvAll depthAll canLayAll0)
open PySem.Builtin.Dict (updateFrom showsAll)
open PySem.Str (ofString)
open Option (toList)
open PySem.Txt (join)
open Int (zero_add)
open Bool (false_xor)
open Nat (le_of_lt mul_le_mul mod_lt)
theorem yB:type_of% @PySem.wpAny_bind:=@PySem.wpAny_bind
theorem y3.{u,v}:type_of% @List.length_map.{u,v}:=@List.length_map
theorem y4.{u}:type_of% @List.getD_eq_getElem?_getD.{u}:=@List.getD_eq_getElem?_getD
theorem y6:type_of% @PySem.wpAny_pure:=@PySem.wpAny_pure
theorem y8:type_of% @PySem.Heap.get?_push_of_some:=@PySem.Heap.get?_push_of_some
theorem xI.{u}:type_of% @List.getElem?_eq_getElem.{u}:=@List.getElem?_eq_getElem
theorem xL.{u}:type_of% @if_neg.{u}:=@if_neg
theorem x3:type_of% @Nat.le_refl:=@Nat.le_refl
theorem x4.{u}:type_of% @if_pos.{u}:=@if_pos
theorem x5.{u,v}:type_of% @List.mem_map.{u,v}:=@List.mem_map
theorem vT.{u,v}:type_of% @Prod.mk.inj.{u,v}:=@Prod.mk.inj
theorem v4.{u,v}:type_of% @List.map_append.{u,v}:=@List.map_append
theorem v6:type_of% @PyProof.Rows.wpS_bind:=@PyProof.Rows.wpS_bind
theorem u8.{u}:type_of% @Array.length_toList.{u}:=@Array.length_toList
theorem kA:type_of% @PySem.Heap.lt_size:=@PySem.Heap.lt_size
theorem kS.{u}:type_of% @Array.getElem?_eq_getElem.{u}:=@Array.getElem?_eq_getElem
theorem wE:type_of% @PySem.Heap.get?_push_size:=@PySem.Heap.get?_push_size
theorem wP.{u,v}:type_of% @List.getElem?_map.{u,v}:=@List.getElem?_map
theorem wS.{u}:type_of% @List.mem_cons.{u}:=@List.mem_cons
theorem wT.{u}:type_of% @List.mem_append.{u}:=@List.mem_append
theorem w8.{u}:type_of% @List.mem_singleton.{u}:=@List.mem_singleton
theorem zAa:type_of% @PyProof.Rows.wpS_pure:=@PyProof.Rows.wpS_pure
theorem zAb.{u}:type_of% @List.length_append.{u}:=@List.length_append
theorem zAc.{u}:type_of% @Array.getElem?_toList.{u}:=@Array.getElem?_toList
theorem zAd:type_of% @PySem.W.mg_of:=@PySem.W.mg_of
theorem zAe.{u}:type_of% @List.size_toArray.{u}:=@List.size_toArray
theorem zAf:type_of% @Bool.false_ne_true:=@Bool.false_ne_true
theorem zAg:type_of% @Int.toNat_natCast:=@Int.toNat_natCast
theorem zAh.{u}:type_of% @Option.some.inj.{u}:=@Option.some.inj
theorem zAi:type_of% @Bool.false_eq_true:=@Bool.false_eq_true
theorem zAj.{u}:type_of% @List.mem_of_getElem?.{u}:=@List.mem_of_getElem?
theorem zAk:type_of% @PySem.sizeLine_eq:=@PySem.sizeLine_eq
theorem zAl.{u}:type_of% @List.mem_filter.{u}:=@List.mem_filter
theorem zAm:type_of% @decide_eq_true:=@decide_eq_true
theorem zAn:type_of% @Nat.ne_of_lt:=@Nat.ne_of_lt
theorem zAo.{u,v}:type_of% @List.map_cons.{u,v}:=@List.map_cons
theorem zAp.{u}:type_of% @List.getElem?_eq_some_iff.{u}:=@List.getElem?_eq_some_iff
theorem zAq:type_of% @List.mem_range:=@List.mem_range
theorem zAr.{u}:type_of% @List.mem_cons_of_mem.{u}:=@List.mem_cons_of_mem
theorem zAs.{u}:type_of% @List.mem_cons_self.{u}:=@List.mem_cons_self
theorem zAt:type_of% @of_decide_eq_true:=@of_decide_eq_true
theorem zAu:type_of% @Nat.le_trans:=@Nat.le_trans
theorem zAv:type_of% @decide_eq_false:=@decide_eq_false
theorem zAw:type_of% @Nat.zero_le:=@Nat.zero_le
theorem zAx:type_of% @Nat.lt_of_lt_of_le:=@Nat.lt_of_lt_of_le
theorem zAy.{u,v,w}:type_of% @List.map_map.{u,v,w}:=@List.map_map
theorem zAz.{u}:type_of% @List.getElem?_append_right.{u}:=@List.getElem?_append_right
theorem zA0.{u}:type_of% @Array.getD_eq_getD_getElem?.{u}:=@Array.getD_eq_getD_getElem?
theorem zA1.{u}:type_of% @List.length_filter_le.{u}:=@List.length_filter_le
theorem zA2:type_of% @PySem.PassesOwn.never:=@PySem.PassesOwn.never
theorem zA3.{u,v}:type_of% @congrArg.{u,v}:=@congrArg
theorem zA4.{u}:type_of% @List.append_assoc.{u}:=@List.append_assoc
theorem zA5.{u,v}:type_of% @List.mem_map_of_mem.{u,v}:=@List.mem_map_of_mem
theorem zA6:type_of% @PySem.F.plainAttrs_list:=@PySem.F.plainAttrs_list
theorem zA7.{u}:type_of% @Array.toList_append.{u}:=@Array.toList_append
theorem zA8.{u}:type_of% @List.getElem?_append_left.{u}:=@List.getElem?_append_left
theorem zA9.{u}:type_of% @List.length_take.{u}:=@List.length_take
theorem zBa.{u}:type_of% @if_false.{u}:=@if_false
theorem zBb.{u}:type_of% @List.take_length.{u}:=@List.take_length
theorem zBc.{u}:type_of% @List.append_nil.{u}:=@List.append_nil
theorem zBd:type_of% @List.length_range:=@List.length_range
theorem zBe:type_of% @PySem.wpAny_call_entry:=@PySem.wpAny_call_entry
theorem zBf.{u,v}:type_of% @Option.map_eq_some_iff.{u,v}:=@Option.map_eq_some_iff
theorem zBg:type_of% @PySem.Heap.get?_update_other:=@PySem.Heap.get?_update_other
theorem zBh:type_of% @PySem.boot_len:=@PySem.boot_len
theorem zBi:type_of% @PySem.F.slot_list_append:=@PySem.F.slot_list_append
theorem zBj:type_of% @PySem.F.type_list_append:=@PySem.F.type_list_append
theorem zBk.{u,v}:type_of% @List.pairwise_map.{u,v}:=@List.pairwise_map
theorem zBl:type_of% @PySem.wpAny_newObj_type:=@PySem.wpAny_newObj_type
theorem zBm.{u}:type_of% @List.mem_append_right.{u}:=@List.mem_append_right
theorem zBn:type_of% @Bool.and_eq_true_iff:=@Bool.and_eq_true_iff
theorem zBo:type_of% @PySem.wpAny_callSpecial?_slot:=@PySem.wpAny_callSpecial?_slot
theorem zBp:type_of% @List.range_succ:=@List.range_succ
theorem zBq.{u}:type_of% @List.length_cons.{u}:=@List.length_cons
theorem zBr.{u}:type_of% @List.not_mem_nil.{u}:=@List.not_mem_nil
theorem zBs:type_of% @PySem.wpAny_holding:=@PySem.wpAny_holding
theorem zBt.{u}:type_of% @Array.getElem?_eq_none.{u}:=@Array.getElem?_eq_none
theorem zBu.{u}:type_of% @List.pairwise_append.{u}:=@List.pairwise_append
theorem zBv.{u}:type_of% @List.take_succ.{u}:=@List.take_succ
theorem zBw:type_of% @PySem.wpAny_setState_of:=@PySem.wpAny_setState_of
theorem zBx.{u}:type_of% @List.length_drop.{u}:=@List.length_drop
theorem zBy:type_of% @Bool.and_eq_true:=@Bool.and_eq_true
theorem zBz:type_of% @or_false:=@or_false
theorem zB0:type_of% @PyProof.Rows.wpS_forRange:=@PyProof.Rows.wpS_forRange
theorem zB1:type_of% @PySem.Heap.SameBut.update:=@PySem.Heap.SameBut.update
theorem zB2.{u}:type_of% @List.mem_iff_getElem?.{u}:=@List.mem_iff_getElem?
theorem zB3.{u}:type_of% @List.take_append_drop.{u}:=@List.take_append_drop
theorem zB4:type_of% @PySem.Heap.get?_update_self:=@PySem.Heap.get?_update_self
theorem zB5.{u}:type_of% @List.nodup_append.{u}:=@List.nodup_append
theorem zB6:type_of% @Nat.lt_irrefl:=@Nat.lt_irrefl
theorem zB7:type_of% @PySem.W.mg_none_of:=@PySem.W.mg_none_of
theorem zB8:type_of% @Nat.max_eq_right:=@Nat.max_eq_right
theorem zB9.{u}:type_of% @List.getElem_mem.{u}:=@List.getElem_mem
theorem zCa.{u}:type_of% @List.ext_getElem.{u}:=@List.ext_getElem
theorem zCb.{u}:type_of% @List.drop_eq_getElem_cons.{u}:=@List.drop_eq_getElem_cons
theorem zCc.{u}:type_of% @List.replicate_succ.{u}:=@List.replicate_succ
theorem zCd.{u}:type_of% @List.nodup_cons.{u}:=@List.nodup_cons
theorem zCe:type_of% @Bool.eq_iff_iff:=@Bool.eq_iff_iff
theorem zCf:type_of% @PySem.wpAny_field:=@PySem.wpAny_field
theorem zCg:type_of% @Nat.add_sub_cancel:=@Nat.add_sub_cancel
theorem zCh:type_of% @Nat.add_sub_cancel_left:=@Nat.add_sub_cancel_left
theorem zCi.{u}:type_of% @List.mem_of_mem_drop.{u}:=@List.mem_of_mem_drop
theorem zCj.{u}:type_of% @List.mem_nil_iff.{u}:=@List.mem_nil_iff
theorem zCk:type_of% @PySem.wpAny_seqItems:=@PySem.wpAny_seqItems
theorem zCl:type_of% @PySem.wpAny_dictEntries:=@PySem.wpAny_dictEntries
theorem zCm:type_of% @Int.emod_nonneg:=@Int.emod_nonneg
theorem zCn.{u}:type_of% @List.pairwise_iff_getElem.{u}:=@List.pairwise_iff_getElem
theorem zCo:type_of% @PySem.wpAny_rule:=@PySem.wpAny_rule
theorem zCp.{u}:type_of% @List.extract_eq_take_drop.{u}:=@List.extract_eq_take_drop
theorem zCq:type_of% @Nat.lt_or_ge:=@Nat.lt_or_ge
theorem zCr:type_of% @Nat.ne_of_gt:=@Nat.ne_of_gt
theorem zCs.{u,v,w}:type_of% @getElem?_pos.{u,v,w}:=@getElem?_pos
theorem zCt.{u}:type_of% @if_true.{u}:=@if_true
theorem zCu:type_of% @PySem.Around.under_plainId:=@PySem.Around.under_plainId
theorem zCv.{u}:type_of% @List.mem_append_left.{u}:=@List.mem_append_left
theorem zCw:type_of% @PySem.wpAny_mono:=@PySem.wpAny_mono
theorem zCx.{u}:type_of% @List.length_eq_zero_iff.{u}:=@List.length_eq_zero_iff
theorem zCy:type_of% @PySem.wpAny_truthy_bool:=@PySem.wpAny_truthy_bool
theorem zCz:type_of% @PyProof.Rows.callWith_type1:=@PyProof.Rows.callWith_type1
theorem zC0.{u}:type_of% @List.take_of_length_le.{u}:=@List.take_of_length_le
theorem zC1.{u}:type_of% @Array.perm_iff_toList_perm.{u}:=@Array.perm_iff_toList_perm
theorem zC2.{u}:type_of% @List.all_eq_true.{u}:=@List.all_eq_true
theorem zC3.{u,v}:type_of% @List.lookup_cons.{u,v}:=@List.lookup_cons
theorem zC4:type_of% @Int.emod_lt_of_pos:=@Int.emod_lt_of_pos
theorem zC5.{u,v,w}:type_of% @Array.forIn_toList.{u,v,w}:=@Array.forIn_toList
theorem zC6:type_of% @PySem.Heap.size_push:=@PySem.Heap.size_push
theorem zC7.{u}:type_of% @List.length_singleton.{u}:=@List.length_singleton
theorem zC8.{u}:type_of% @List.Pairwise.and_mem.{u}:=@List.Pairwise.and_mem
theorem zC9:type_of% @PySem.wpAny_setField_rec:=@PySem.wpAny_setField_rec
theorem zDa.{u}:type_of% @List.filter_append.{u}:=@List.filter_append
theorem zDb.{u}:type_of% @List.mem_of_mem_take.{u}:=@List.mem_of_mem_take
theorem zDc.{u}:type_of% @List.mem_iff_getElem.{u}:=@List.mem_iff_getElem
theorem zDd:type_of% @PySem.codeAny_builtin:=@PySem.codeAny_builtin
theorem zDe.{u}:type_of% @Array.toList_extract.{u}:=@Array.toList_extract
theorem zDf.{u}:type_of% @List.idxOf_lt_length_iff.{u}:=@List.idxOf_lt_length_iff
theorem zDg:type_of% @decide_eq_true_eq:=@decide_eq_true_eq
theorem zDh:type_of% @Nat.lt_succ_of_lt:=@Nat.lt_succ_of_lt
theorem zDi.{u}:type_of% @Array.toList_push.{u}:=@Array.toList_push
theorem zDj:type_of% @PySem.wpAny_typeNameOfWhole_keyiter:=@PySem.wpAny_typeNameOfWhole_keyiter
theorem zDk.{u}:type_of% @List.reverse_append.{u}:=@List.reverse_append
theorem zDl:type_of% @PyProof.Rows.wpS_mono:=@PyProof.Rows.wpS_mono
theorem zDm.{u,v}:type_of% @List.mem_flatMap.{u,v}:=@List.mem_flatMap
theorem zDn:type_of% @PySem.F.slot_dict_keyiterator_next:=@PySem.F.slot_dict_keyiterator_next
theorem zDo.{u}:type_of% @List.filter_cons.{u}:=@List.filter_cons
theorem zDp:type_of% @PySem.W.cellsFrom_some:=@PySem.W.cellsFrom_some
theorem zDq:type_of% @PySem.F.plainAttrs_str:=@PySem.F.plainAttrs_str
theorem zDr.{u}:type_of% @List.getElem?_drop.{u}:=@List.getElem?_drop
theorem zDs:type_of% @Nat.lt_of_le_of_lt:=@Nat.lt_of_le_of_lt
theorem zDt.{u}:type_of% @List.countP_append.{u}:=@List.countP_append
theorem zDu:type_of% @PySem.F.slot_str_join:=@PySem.F.slot_str_join
theorem zDv:type_of% @PySem.F.type_str_join:=@PySem.F.type_str_join
theorem zDw:type_of% @Bool.not_true:=@Bool.not_true
theorem zDx:type_of% @Nat.le_of_succ_le:=@Nat.le_of_succ_le
theorem zDy:type_of% @Nat.pow_le_pow_right:=@Nat.pow_le_pow_right
theorem zDz.{u}:type_of% @beq_iff_eq.{u}:=@beq_iff_eq
theorem zD0.{u}:type_of% @Array.toList_reverse.{u}:=@Array.toList_reverse
theorem zD1:type_of% @PySem.wpAny_setField:=@PySem.wpAny_setField
theorem zD2:type_of% @Nat.add_zero:=@Nat.add_zero
theorem zD3:type_of% @PySem.wpAny_typeOf:=@PySem.wpAny_typeOf
theorem zD4:type_of% @PySem.wpAny_forIn_list:=@PySem.wpAny_forIn_list
theorem zD5:type_of% @PySem.wpAny_isInstance:=@PySem.wpAny_isInstance
theorem zD6:type_of% @Nat.lt_trans:=@Nat.lt_trans
theorem zD7:type_of% @Nat.sub_self:=@Nat.sub_self
theorem zD8.{u,v}:type_of% @List.all_map.{u,v}:=@List.all_map
theorem zD9.{u}:type_of% @beq_eq_false_iff_ne.{u}:=@beq_eq_false_iff_ne
theorem zEa:type_of% @PySem.mem_of_lookup:=@PySem.mem_of_lookup
theorem zEb.{u,v}:type_of% @List.flatMap_append.{u,v}:=@List.flatMap_append
theorem zEc:type_of% @PySem.wpAny_attempt:=@PySem.wpAny_attempt
theorem zEd:type_of% @PySem.wpAny_specialOf:=@PySem.wpAny_specialOf
theorem zEe:type_of% @PyProof.Rows.wpS_modify:=@PyProof.Rows.wpS_modify
theorem zEf.{u,v,w}:type_of% @List.forIn_cons.{u,v,w}:=@List.forIn_cons
set_option Elab.async false
set_option linter.all false
set_option maxRecDepth 100000
set_option compiler.extract_closed false
namespace TB
open PySem PySem.SetTable
noncomputable def uS (xs:Array Nat):Prop:=∀a b,a < b->b < xs.size->xs.getD a 0 < xs.getD b 0
theorem Lx {xs:Array Nat}{k:Nat}(h:k < xs.size)(d e:Nat):xs.getD k d=xs.getD k e:=by simp [getD,h]
noncomputable def Parts (xs:Array Nat)(j b:Nat):Prop:=b<=xs.size/\(∀k,k < b->xs.getD k 0 < j)/\(∀k,b<=k->k < xs.size->j<=xs.getD k 0)
theorem go_eq (xs:Array Nat)(j fuel lo hi:Nat):below.go xs j (fuel+1) lo hi=if lo < hi then (if xs.getD ((lo+hi) / 2) j < j then below.go xs j fuel ((lo+hi) / 2+1) hi else below.go xs j fuel lo ((lo+hi) / 2)) else lo:=rfl
theorem xD {xs:Array Nat}{j:Nat}:∀(fuel lo hi:Nat),lo<=hi->hi<=xs.size->hi - lo<=fuel->uS xs->(∀k,k < lo->xs.getD k 0 < j)->(∀k,hi<=k->k < xs.size->j<=xs.getD k 0)->Parts xs j (below.go xs j fuel lo hi)
 | 0,lo,hi,h1,h2,h3,_,hl,hh=>⟨show lo<=_ by omega,hl,λk hk=>hh k (by have:lo<=k:=hk; omega)⟩
 | fuel+1,lo,hi,h1,h2,h3,hr,hl,hh=>by
  rw[go_eq]
  by_cases c:lo < hi
  ·rw[x4 c]
   have hm:(lo+hi) / 2 < xs.size:=by omega
   rw[Lx hm j 0]
   by_cases c2:xs.getD ((lo+hi) / 2) 0 < j
   ·rw[x4 c2]
    refine xD fuel _ _ (by omega) h2 (by omega) hr (λk hk=>?_) hh
    by_cases e:k=(lo+hi) / 2
    ·rw[e]; exact c2
    ·have:=hr k ((lo+hi) / 2) (by omega) hm
     omega
   ·rw[xL c2]
    refine xD fuel _ _ (by omega) (by omega) (by omega) hr hl λk hk hk2=>?_
    by_cases e:k=(lo+hi) / 2
    ·rw[e]; omega
    ·have:=hr ((lo+hi) / 2) k (by omega) hk2
     omega
  ·rw[xL c]
   exact⟨by omega,hl,λk hk=>hh k (by omega)⟩
theorem lY {xs:Array Nat}(hr:uS xs)(j:Nat):Parts xs j (below xs j):=
 xD _ _ _ (zAw _) (x3 _) (by omega) hr (λk hk=>absurd hk (by omega)) λk hk hk2=>absurd hk2 (by omega)
theorem mW {xs:Array Nat}(hr:uS xs){j k:Nat}(h:xs[k]?=some j):below xs j=k:=by
 obtain⟨h1,h2,h3⟩:=lY hr j
 have hk:k < xs.size:=by
  rcases zCq k xs.size with q | q
  ·exact q
  ·rw[zBt q] at h; cases h
 have e:xs.getD k 0=j:=by
  rw[kS hk] at h
  simp [getD,hk]
  exact zAh h
 rcases Nat.lt_trichotomy (below xs j) k with q | q | q
 ·have a1:=h3 (below xs j) (x3 _) (by omega)
  have a2:=hr _ k q hk
  omega
 ·exact q
 ·have:=h2 k q
  omega
structure Plain (t:SetTable):Prop where
 rise:uS t.place
 CZ:t.dummies=#[]
theorem C0 (j:Nat):has #[] j=false:=by
 unfold has
 simp
theorem qY {t:SetTable}(h:Plain t){j k:Nat}(e:t.place[k]?=some j):t.slot j=.live k:=by
 unfold slot
 rw[mW h.rise e]
 simp [e]
theorem Ej {t:SetTable}(h:Plain t){j:Nat}(e:j∉t.place.toList):t.slot j=.empty:=by
 unfold slot
 have q:¬ t.place[below t.place j]?=some j:=λz=>e (by
  have:=Array.mem_of_getElem? z
  exact Array.mem_toList_iff.mpr this)
 have q':(t.place[below t.place j]? == some j)=false:=by simpa using q
 dsimp only
 rw[q',h.CZ,C0]
 rfl
noncomputable def nQ (m:Nat)(p:Probe):Probe:=
 if p.more > 0 then { p with j:=p.j+1,more:=p.more - 1 } else
 { p with j:=(leap m p.i p.perturb).1,more:=runEnd m (leap m p.i p.perturb).1 - (leap m p.i p.perturb).1,i:=(leap m p.i p.perturb).1,perturb:=(leap m p.i p.perturb).2 }
theorem p7 (t:SetTable)(p:Probe):t.advance p=nQ t.mask p:=rfl
noncomputable def JX (m i perturb:Nat):Probe:={ j:=i,more:=runEnd m i - i,i:=i,perturb:=perturb,dummy:=none }
noncomputable def pr (m:Nat)(h:Int):Nat->Probe
 | 0=>JX m (bits h % (m+1)) (bits h)
 | n+1=>nQ m (pr m h n)
theorem uT (m:Nat)(h:Int):∀n,(pr m h n).dummy=none
 | 0=>rfl
 | n+1=>by
  show (nQ m (pr m h n)).dummy=none
  unfold nQ
  split
  ·exact uT m h n
  ·exact uT m h n
noncomputable def lp (m:Nat)(h:Int):Nat->Nat × Nat
 | 0=>(bits h % (m+1),bits h)
 | l+1=>leap m (lp m h l).1 (lp m h l).2
theorem vG (m i p:Nat):∀k,k<=runEnd m i - i->∀(f:Nat->Probe),(∀n,f (n+1)=nQ m (f n))->∀n,f n=JX m i p->f (n+k)={ j:=i+k,more:=runEnd m i - i - k,i:=i,perturb:=p,dummy:=none }
 | 0,_,f,hf,n,e=>by rw[zD2,e]; rfl
 | k+1,hk,f,hf,n,e=>by
  have ih:=vG m i p k (by omega) f hf n e
  rw[show n+(k+1)=(n+k)+1 by omega,hf,ih]
  unfold nQ
  rw[x4 (by show runEnd m i - i - k > 0; omega)]
  show ({ j:=i+k+1,more:=runEnd m i - i - k - 1,i:=i,perturb:=p,dummy:=none }:Probe)=_
  congr 1
theorem MY (m i:Nat):runEnd m i - i<=9:=by
 unfold runEnd
 split <;> omega
theorem C1 (m:Nat)(h:Int):∀l,∃n,n<=10 * l/\pr m h n=JX m (lp m h l).1 (lp m h l).2
 | 0=>⟨0,x3 _,rfl⟩
 | l+1=>by
  obtain⟨n,hn,e⟩:=C1 m h l
  have hr:=MY m (lp m h l).1
  have r:=vG m _ _ (runEnd m (lp m h l).1 - (lp m h l).1) (x3 _) (pr m h) (λ_=>rfl) n e
  refine⟨n+(runEnd m (lp m h l).1 - (lp m h l).1)+1,by omega,?_⟩
  show nQ m (pr m h (n+(runEnd m (lp m h l).1 - (lp m h l).1)))=_
  rw[r]
  unfold nQ
  rw[xL (by show ¬ runEnd m (lp m h l).1 - (lp m h l).1 - (runEnd m (lp m h l).1 - (lp m h l).1) > 0; omega)]
  rfl
theorem Ly (h:Int):bits h < 2 ^ 64:=by
 unfold bits
 have h1:=zCm h (show (2 ^ 64:Int)≠0 by decide)
 have h2:=zC4 h (show (0:Int) < 2 ^ 64 by decide)
 omega
theorem vH (m:Nat)(h:Int):∀l,(lp m h l).2=bits h / 32 ^ l
 | 0=>by simp [lp]
 | l+1=>by
  show (lp m h l).2 / 32=_
  rw[vH m h l,Nat.div_div_eq_div_mul,Nat.pow_succ]
theorem Lz (m:Nat)(h:Int){l:Nat}(hl:13<=l):(lp m h l).2=0:=by
 rw[vH]
 refine Nat.div_eq_of_lt (zAx (Ly h) ?_)
 have:(32:Nat) ^ 13<=32 ^ l:=zDy (by decide) hl
 exact zAu (by decide) this
theorem JY (m:Nat)(h:Int):∀l,(lp m h l).1 < m+1
 | 0=>mod_lt _ (by omega)
 | l+1=>mod_lt _ (by omega)
def f0 (m i:Nat):Nat:=(i * 5+1) % (m+1)
noncomputable def it (m:Nat):Nat->Nat->Nat
 | 0,i=>i
 | k+1,i=>it m k (f0 m i)
theorem qZ (m:Nat):∀(a b i:Nat),it m (a+b) i=it m b (it m a i)
 | 0,b,i=>by rw[Nat.zero_add]; rfl
 | a+1,b,i=>by
  rw[show a+1+b=(a+b)+1 by omega]
  show it m (a+b) (f0 m i)=it m b (it m a (f0 m i))
  exact qZ m a b _
theorem JZ (m:Nat)(h:Int){l:Nat}(hl:13<=l):∀k,(lp m h (l+k)).1=it m k (lp m h l).1
 | 0=>rfl
 | k+1=>by
  have:it m (k+1) (lp m h l).1=f0 m (it m k (lp m h l).1):=by rw[qZ m k 1]; rfl
  rw[this,←JZ m h hl k]
  show (leap m (lp m h (l+k)).1 (lp m h (l+k)).2).1=_
  unfold leap f0
  rw[Lz m h (show 13<=l+k by omega)]
noncomputable def C2 (m:Nat):Nat->Nat->List Nat
 | 0,_=>[]
 | k+1,i=>i::C2 m k (f0 m i)
theorem FH (m:Nat):∀(k i a x:Nat),(C2 m k i)[a]?=some x->a < k/\it m a i=x
 | 0,i,a,x,h=>by simp [C2] at h
 | k+1,i,0,x,h=>by
  unfold C2 at h
  simp at h
  exact⟨by omega,h⟩
 | k+1,i,a+1,x,h=>by
  unfold C2 at h
  simp at h
  obtain⟨h1,h2⟩:=FH m k _ a x h
  exact⟨by omega,h2⟩
noncomputable def eN (m:Nat):Prop:=((range (m+1)).all λi=>(C2 m (m+1) 0).contains i)=true/\it m (m+1) 0=0
theorem FI:eN 7:=by constructor <;> decide +kernel
theorem LA:eN 31:=by constructor <;> decide +kernel
theorem Im:eN 127:=by constructor <;> decide +kernel
theorem Io:eN 511:=by constructor <;> decide +kernel
theorem eN.pos {m:Nat}(w:eN m){i:Nat}(hi:i < m+1):∃a,a < m+1/\it m a 0=i:=by
 have:=zC2.mp w.1 i (zAq.mpr hi)
 obtain⟨a,ha⟩:=zB2.mp (List.contains_iff_mem.mp this)
 exact⟨a,FH m _ _ a i ha⟩
theorem eN.go {m:Nat}(w:eN m){i j:Nat}(hi:i < m+1)(hj:j < m+1):∃k,k<=m/\it m k i=j:=by
 obtain⟨a,ha,ea⟩:=w.pos hi
 obtain⟨b,hb,eb⟩:=w.pos hj
 by_cases c:a<=b
 ·refine⟨b - a,by omega,?_⟩
  rw[←ea,←qZ,show a+(b - a)=b by omega]
  exact eb
 ·refine⟨b+(m+1) - a,by omega,?_⟩
  rw[←ea,←qZ,show a+(b+(m+1) - a)=(m+1)+b by omega,qZ,w.2]
  exact eb
theorem eN.leap {m:Nat}(w:eN m)(h:Int){j:Nat}(hj:j < m+1):∃l,l<=m+13/\(lp m h l).1=j:=by
 obtain⟨k,hk,e⟩:=w.go (JY m h 13) hj
 exact⟨13+k,by omega,by rw[JZ m h (x3 13),e]⟩
theorem eN.cover {m:Nat}(w:eN m)(h:Int){j:Nat}(hj:j < m+1):∃n,n < 10 * turns m/\(pr m h n).j=j:=by
 obtain⟨l,hl,e⟩:=w.leap h hj
 obtain⟨n,hn,e2⟩:=C1 m h l
 refine⟨n,by unfold turns; omega,?_⟩
 rw[e2]
 exact e
theorem cR {α:Type}[DecidableEq α]:∀{l1 l2:List α},l1.Nodup->(∀x∈l1,x∈l2)->l1.length<=l2.length
 | [],_,_,_=>zAw _
 | x::xs,l2,nd,h=>by
  rw[zCd] at nd
  have hx:=h x zAs
  have:=cR (l2:=l2.erase x) nd.2 λy hy=>(List.mem_erase_of_ne (λ(z:y=x)=>nd.1 (z ▸ hy))).mpr (h y (zAr _ hy))
  rw[List.length_erase_of_mem hx] at this
  have h1:0 < l2.length:=List.length_pos_of_mem hx
  rw[zBq]
  omega
noncomputable def Reach (m:Nat)(occ:Nat->Prop)(h:Int)(j:Nat):Prop:=∃n,(pr m h n).j=j/\∀k,k < n->occ (pr m h k).j
theorem Reach.mono {m:Nat}{o o':Nat->Prop}{h:Int}{j:Nat}(r:Reach m o h j)(s:∀k,o k->o' k):Reach m o' h j:=by
 obtain⟨n,e,q⟩:=r
 exact⟨n,e,λk hk=>s _ (q k hk)⟩
structure kc (t:SetTable)(hs:List Int):Prop where
 plain:Plain t
 whole:eN t.mask
 size:t.place.toList.length=hs.length
 low:∀j∈t.place.toList,j<=t.mask
 room:hs.length<=t.mask
 reach:∀x∈t.place.toList.zip hs,Reach t.mask (·∈t.place.toList) x.2 x.1
theorem uU {xs:Array Nat}:uS xs↔xs.toList.Pairwise (· < ·):=by
 rw[zCn]
 constructor
 ·intro h i j hi hj hij
  have:=h i j hij (by simpa using hj)
  have hi':i < xs.size:=by simpa using hi
  have hj':j < xs.size:=by simpa using hj
  simpa [getD,hi',hj'] using this
 ·intro h a b hab hb
  have:=h a b (by simpa using (show a < xs.size by omega)) (by simpa using hb) hab
  simpa [getD,hb,show a < xs.size by omega] using this
theorem least {p:Nat->Prop}[DecidablePred p]:∀n,p n->∃k,k<=n/\p k/\∀i,i < k->¬ p i:=by
 intro n
 induction n using Nat.strongRecOn with
 | _ n ih=>
  intro h
  by_cases c:∃i,i < n/\p i
  ·obtain⟨i,hi,pi⟩:=c
   obtain⟨k,hk,r⟩:=ih i hi pi
   exact⟨k,by omega,r⟩
  ·exact⟨n,x3 _,h,λi hi pi=>c ⟨i,hi,pi⟩⟩
theorem kc.hole {t:SetTable}{hs:List Int}(H:kc t hs):∃j,j < t.mask+1/\j∉t.place.toList:=by
 by_cases c:∀j,j < t.mask+1->j∈t.place.toList
 ·have:=cR (l1:=range (t.mask+1)) List.nodup_range λx hx=>c x (zAq.mp hx)
  rw[zBd,H.size] at this
  have:=H.room
  omega
 ·have ⟨j,hj⟩:=Classical.not_forall.mp c
  exact⟨j,Classical.not_imp.mp hj⟩
theorem kc.first {t:SetTable}{hs:List Int}(H:kc t hs)(h:Int):∃N,N < 10 * turns t.mask/\(pr t.mask h N).j∉t.place.toList/\∀k,k < N->(pr t.mask h k).j∈t.place.toList:=by
 obtain⟨j,hj,hn⟩:=H.hole
 obtain⟨n,hlt,e⟩:=H.whole.cover h hj
 obtain⟨k,hk,h1,h2⟩:=least (p:=λn=>(pr t.mask h n).j∉t.place.toList) n (by rw[e]; exact hn)
 exact⟨k,by omega,h1,λi hi=>Classical.not_not.mp (h2 i hi)⟩
theorem An (m:Nat)(h:Int)(n:Nat):(pr m h n).j<=m/\(pr m h n).j+(pr m h n).more<=m:=by
 induction n with
 | zero=>
  show bits h % (m+1)<=m/\bits h % (m+1)+(runEnd m (bits h % (m+1)) - bits h % (m+1))<=m
  have:=mod_lt (bits h) (show 0 < m+1 by omega)
  unfold runEnd
  split <;> omega
 | succ n ih=>
  show (nQ m (pr m h n)).j<=m/\(nQ m (pr m h n)).j+(nQ m (pr m h n)).more<=m
  unfold nQ
  split
  ·rename_i c
   show (pr m h n).j+1<=m/\(pr m h n).j+1+((pr m h n).more - 1)<=m
   omega
  ·show (leap m (pr m h n).i (pr m h n).perturb).1<=m/\(leap m (pr m h n).i (pr m h n).perturb).1+(runEnd m (leap m (pr m h n).i (pr m h n).perturb).1 - (leap m (pr m h n).i (pr m h n).perturb).1)<=m
   have:(leap m (pr m h n).i (pr m h n).perturb).1 < m+1:=mod_lt _ (by omega)
   generalize (leap m (pr m h n).i (pr m h n).perturb).1=i at *
   unfold runEnd
   split <;> omega
theorem kM (t:SetTable)(hashAt:Nat->Int)(h:Int)(fuel:Nat)(p:Probe):probe.go t hashAt h (fuel+1) p=(match t.slot p.j with
  | .empty=>some (.empty p.j p.dummy)
  | .dummy=>probe.go t hashAt h fuel (t.advance { p with dummy:=some p.j })
  | .live i=>if hashAt i == h then some (.candidate p.j i (t.advance p)) else probe.go t hashAt h fuel (t.advance p)):=rfl
theorem Ao {t:SetTable}{hashAt:Nat->Int}{h:Int}:∀(n fuel a:Nat),n < fuel->(∀k,k < n->∃i,t.slot (pr t.mask h (a+k)).j=.live i/\(hashAt i == h)=false)->t.slot (pr t.mask h (a+n)).j=.empty->
  probe.go t hashAt h fuel (pr t.mask h a)=some (.empty (pr t.mask h (a+n)).j none)
 | 0,fuel+1,a,_,_,e=>by
  rw[zD2] at e ⊢
  rw[kM,e,uT]
  rfl
 | n+1,fuel+1,a,hn,hl,e=>by
  obtain⟨i,e1,e2⟩:=hl 0 (by omega)
  rw[zD2] at e1
  rw[kM,e1]
  dsimp only
  rw[e2,xL (by decide),p7]
  have:=Ao n fuel (a+1) (by omega) (λk hk=>by
   have:=hl (k+1) (by omega)
   rwa [show a+(k+1)=a+1+k by omega] at this) (by rwa [show a+(n+1)=a+1+n by omega] at e)
  rw[show a+(n+1)=a+1+n by omega]
  exact this
theorem C3 {t:SetTable}{hashAt:Nat->Int}{h:Int}{i:Nat}:∀(n fuel a:Nat),n < fuel->(∀k,k < n->∃i,t.slot (pr t.mask h (a+k)).j=.live i/\(hashAt i == h)=false)->t.slot (pr t.mask h (a+n)).j=.live i->(hashAt i == h)=true->
  probe.go t hashAt h fuel (pr t.mask h a)=some (.candidate (pr t.mask h (a+n)).j i (pr t.mask h (a+n+1)))
 | 0,fuel+1,a,_,_,e,e3=>by
  rw[zD2] at e ⊢
  rw[kM,e]
  dsimp only
  rw[e3,x4 rfl,p7]
  rfl
 | n+1,fuel+1,a,hn,hl,e,e3=>by
  obtain⟨i',e1,e2⟩:=hl 0 (by omega)
  rw[zD2] at e1
  rw[kM,e1]
  dsimp only
  rw[e2,xL (by decide),p7]
  have:=C3 n fuel (a+1) (by omega) (λk hk=>by
   have:=hl (k+1) (by omega)
   rwa [show a+(k+1)=a+1+k by omega] at this) (by rwa [show a+(n+1)=a+1+n by omega] at e) e3
  rw[show a+(n+1)=a+1+n by omega]
  exact this
theorem qt {α:Type}(xs:Array α)(p:Nat)(x:α)(h:p<=xs.size):(insertAt xs p x).toList=xs.toList.take p++x::xs.toList.drop p:=by
 unfold insertAt
 simp
 rw[zC0 (by simp)]
theorem LB {α β:Type}(l1:List α)(l2:List β)(p:Nat)(x:α)(y:β)(h:l1.length=l2.length):(l1.take p++x::l1.drop p).zip (l2.take p++y::l2.drop p)=(l1.zip l2).take p++(x,y)::(l1.zip l2).drop p:=by
 rw[List.zip_append (by simp [h]),List.zip_cons_cons]
 congr 1
 ·simp [List.zip,List.take_zipWith]
 ·congr 1
  simp [List.zip,List.drop_zipWith]
theorem s_ {α:Type}{l:List α}{p:Nat}{x y:α}:y∈l.take p++x::l.drop p↔y=x\/y∈l:=by
 rw[wT,wS]
 constructor
 ·rintro (h | h | h)
  ·exact .inr (zDb h)
  ·exact .inl h
  ·exact .inr (zCi h)
 ·rintro (h | h)
  ·exact .inr (.inl h)
  ·rw[←zB3 p l,wT] at h
   rcases h with h | h
   ·exact .inl h
   ·exact .inr (.inr h)
theorem kc.put {t:SetTable}{hs:List Int}(H:kc t hs){h:Int}{j:Nat}(hj:j∉t.place.toList)(hm:j<=t.mask)(hr:Reach t.mask (·∈t.place.toList) h j)(room:hs.length+1<=t.mask) :
  (t.put j).2<=hs.length/\(t.put j).1.mask=t.mask/\(t.put j).1.place.size=hs.length+1/\(t.put j).1.dummies=#[]/\kc (t.put j).1 (hs.take (t.put j).2++h::hs.drop (t.put j).2):=by
 obtain⟨b1,b2,b3⟩:=lY H.plain.rise j
 have hsz:t.place.size=hs.length:=by simpa using H.size
 have e2:(t.put j).2=below t.place j:=rfl
 have hd:(t.put j).1.dummies=#[]:=by
  show (if has t.dummies j=true then _ else t.dummies)=#[]
  rw[H.plain.CZ,C0,xL (by decide)]
 have hpl:(t.put j).1.place.toList=t.place.toList.take (below t.place j)++j::t.place.toList.drop (below t.place j):=qt _ _ _ b1
 have hlen:(t.put j).1.place.size=hs.length+1:=by
  have:(t.put j).1.place.toList.length=hs.length+1:=by
   rw[hpl,zAb,zBq,zA9,zBx,H.size]
   omega
  simpa using this
 rw[e2]
 refine⟨by omega,rfl,hlen,hd,⟨⟨?_,hd⟩,H.whole,?_,?_,?_,?_⟩⟩
 ·rw[uU,hpl,zBu]
  have pw:=uU.mp H.plain.rise
  have tk:∀a∈t.place.toList.take (below t.place j),a < j:=λa ha=>by
   obtain⟨i,hi,e⟩:=zDc.mp ha
   rw[zA9] at hi
   have hi2:i < t.place.size:=by have:=H.size; omega
   have:=b2 i (by omega)
   simp [getD,hi2] at this
   rw[←e]
   simpa using this
  have dr:∀a∈t.place.toList.drop (below t.place j),j < a:=λa ha=>by
   obtain⟨i,hi,e⟩:=zDc.mp ha
   rw[zBx] at hi
   have hi2:below t.place j+i < t.place.size:=by have:=H.size; omega
   have:=b3 (below t.place j+i) (by omega) hi2
   simp [getD,hi2] at this
   have ha':a∈t.place.toList:=zCi ha
   have ne:j≠a:=λz=>hj (z ▸ ha')
   have:j<=a:=by rw[←e]; simpa using this
   omega
  refine⟨pw.sublist (List.take_sublist _ _),List.pairwise_cons.mpr ⟨dr,pw.sublist (List.drop_sublist _ _)⟩,λa ha b hb=>?_⟩
  rcases wS.mp hb with rfl | hb
  ·exact tk a ha
  ·have:=tk a ha
   have:=dr b hb
   omega
 ·rw[hpl]
  simp only [zAb,zBq,zA9,zBx]
  rw[H.size]
 ·intro a ha
  rw[hpl,s_] at ha
  rcases ha with rfl | ha
  ·exact hm
  ·exact H.low a ha
 ·simp only [zAb,zBq,zA9,zBx]
  show _<=t.mask
  omega
 ·intro x hx
  rw[hpl,LB _ _ _ _ _ H.size,s_] at hx
  have mono:∀k,k∈t.place.toList->k∈(t.put j).1.place.toList:=λk hk=>by rw[hpl,s_]; exact .inr hk
  rcases hx with rfl | hx
  ·exact hr.mono mono
  ·exact (H.reach x hx).mono mono
noncomputable def lR (owner:Array (Option Nat))(x:Nat):Prop:=∃q,owner[x]?=some (some q)
theorem free_eq (m:Nat)(owner:Array (Option Nat))(fuel i p:Nat):layClean.free m owner (fuel+1) i p=(match (range (runEnd m i+1 - i)).find? λk=>(owner.getD (i+k) (some 0)).isNone with
  | some k=>some (i+k)
  | none=>layClean.free m owner fuel (leap m i p).1 (leap m i p).2):=rfl
theorem FJ {owner:Array (Option Nat)}{x:Nat}(hx:x < owner.size)(h:(owner.getD x (some 0)).isNone=false):lR owner x:=by
 simp only [getD,hx,↓reduceDIte] at h
 cases e:owner[x] with
 | none=>simp [e] at h
 | some q=>exact⟨q,by rw[kS hx,e]⟩
theorem LC {owner:Array (Option Nat)}{x:Nat}(h:(owner.getD x (some 0)).isNone=true):x < owner.size/\¬ lR owner x:=by
 by_cases hx:x < owner.size
 ·refine⟨hx,λ⟨q,e⟩=>?_⟩
  rw[kS hx] at e
  simp only [getD,hx,↓reduceDIte] at h
  have e':owner[x]=some q:=zAh e
  simp [e'] at h
 ·simp [getD,hx] at h
theorem yH {m:Nat}(w:eN m){owner:Array (Option Nat)}(hs:owner.size=m+1)(h:Int)(hole:∃j,j < m+1/\¬ lR owner j) :
  ∀(fuel l n:Nat),l+fuel=turns m->pr m h n=JX m (lp m h l).1 (lp m h l).2->(∀k,k < n->lR owner (pr m h k).j)->(∀l',l' < l->lR owner (lp m h l').1)->
   ∃j,layClean.free m owner fuel (lp m h l).1 (lp m h l).2=some j/\j < owner.size/\¬ lR owner j/\Reach m (lR owner) h j
 | 0,l,n,hl,_,_,Ip=>by
  obtain⟨j,hj,hn⟩:=hole
  obtain⟨l',hl',e⟩:=w.leap h hj
  unfold turns at hl
  exact absurd (e ▸ Ip l' (by omega)) hn
 | fuel+1,l,n,hl,e,hn,Ip=>by
  rw[free_eq]
  have hi:=JY m h l
  have J0:∀k,k < runEnd m (lp m h l).1+1 - (lp m h l).1->(pr m h (n+k)).j=(lp m h l).1+k:=λk hk=>by
   rw[vG m _ _ k (by omega) (pr m h) (λ_=>rfl) n e]
  have hle:∀k,k < runEnd m (lp m h l).1+1 - (lp m h l).1->(lp m h l).1+k < m+1:=λk hk=>by
   have:=(An m h (n+k)).1
   rw[J0 k hk] at this
   omega
  cases c:(range (runEnd m (lp m h l).1+1 - (lp m h l).1)).find? λk=>(owner.getD ((lp m h l).1+k) (some 0)).isNone with
  | some k=>
   obtain⟨a1,as,bs,a2,a3⟩:=List.find?_eq_some_iff_append.mp c
   have hk:k < runEnd m (lp m h l).1+1 - (lp m h l).1:=zAq.mp (a2 ▸ zBm _ zAs)
   have hlt:∀i,i < k->i∈as:=λi hik=>by
    have Rm:i∈range (runEnd m (lp m h l).1+1 - (lp m h l).1):=zAq.mpr (by omega)
    have pw:(range (runEnd m (lp m h l).1+1 - (lp m h l).1)).Pairwise (· < ·):=List.pairwise_lt_range
    rw[a2] at Rm pw
    rcases wT.mp Rm with q | q
    ·exact q
    ·rcases wS.mp q with q | q
     ·omega
     ·have:=(List.pairwise_cons.mp (zBu.mp pw).2.1).1 i q
      omega
   have no:=LC a1
   refine⟨(lp m h l).1+k,rfl,no.1,no.2,n+k,J0 k hk,λi hik=>?_⟩
   by_cases ci:i < n
   ·exact hn i ci
   ·have e1:=J0 (i - n) (by omega)
    rw[show n+(i - n)=i by omega] at e1
    rw[e1]
    have:=a3 (i - n) (hlt _ (by omega))
    exact FJ (by rw[hs]; exact hle _ (by omega)) (by simpa using this)
  | none=>
   have all:=List.find?_eq_none.mp c
   have hr:=vG m _ _ (runEnd m (lp m h l).1 - (lp m h l).1) (x3 _) (pr m h) (λ_=>rfl) n e
   have Xj:(lp m h l).1<=runEnd m (lp m h l).1:=by unfold runEnd; split <;> omega
   have MZ:∀k,k < runEnd m (lp m h l).1+1 - (lp m h l).1->lR owner ((lp m h l).1+k):=λk hk=>by
    have:=all k (zAq.mpr hk)
    exact FJ (by rw[hs]; exact hle k hk) (Bool.eq_false_iff.mpr this)
   refine yH w hs h hole fuel (l+1) (n+(runEnd m (lp m h l).1 - (lp m h l).1)+1) (by omega) ?_ (λk hk=>?_) λl' hl'=>?_
   ·show nQ m (pr m h (n+(runEnd m (lp m h l).1 - (lp m h l).1)))=_
    rw[hr]
    unfold nQ
    rw[xL (by show ¬ runEnd m (lp m h l).1 - (lp m h l).1 - (runEnd m (lp m h l).1 - (lp m h l).1) > 0; omega)]
    rfl
   ·by_cases ck:k < n
    ·exact hn k ck
    ·have e1:=J0 (k - n) (by omega)
     rw[show n+(k - n)=k by omega] at e1
     rw[e1]
     exact MZ _ (by omega)
   ·by_cases cl:l' < l
    ·exact Ip l' cl
    ·have:l'=l:=by omega
     subst this
     have:=MZ 0 (by omega)
     simpa using this
structure kg (m:Nat)(hs:List Int)(k:Nat)(owner:Array (Option Nat)):Prop where
 size:owner.size=m+1
 each:∀(q:Nat) (h:Int),q < k->hs[q]?=some h->∃j:Nat,owner[j]?=some (some q)/\Reach m (lR owner) h j
 low:∀(j q:Nat),owner[j]?=some (some q)->q < k
 inj:∀(j j' q:Nat),owner[j]?=some (some q)->owner[j']?=some (some q)->j=j'
theorem kg.start (m:Nat)(hs:List Int):kg m hs 0 (Array.replicate (m+1) none):=by
 have no:∀(j q:Nat),(Array.replicate (m+1) (none:Option Nat))[j]?=some (some q)->False:=λj q e=>by
  rw[Array.getElem?_replicate] at e
  split at e <;> simp at e
 exact⟨by simp,λq h hq=>absurd hq (by omega),λj q e=>(no j q e).elim,λj j' q e=>(no j q e).elim⟩
theorem kg.hole {m:Nat}{hs:List Int}{k:Nat}{owner:Array (Option Nat)}(O:kg m hs k owner)(hk:k<=m):∃j,j < m+1/\¬ lR owner j:=by
 by_cases c:∀j,j < m+1->lR owner j
 ·
  have f:∀j,j < m+1->∃q,owner[j]?=some (some q):=c
  let g:Nat->Nat:=λj=>((owner[j]?).join).getD 0
  have hg:∀j,j < m+1->owner[j]?=some (some (g j)):=λj hj=>by
   obtain⟨q,e⟩:=f j hj
   show _=some (some (((owner[j]?).join).getD 0))
   rw[e]; rfl
  have nd:((range (m+1)).map g).Nodup:=by
   rw[List.Nodup,zBk]
   refine (List.nodup_range (n:=m+1)).imp_of_mem λ{a b} ha hb ne e=>ne ?_
   exact O.inj a b (g a) (hg a (zAq.mp ha)) (e ▸ hg b (zAq.mp hb))
  have:=cR (l2:=range k) nd λx hx=>by
   obtain⟨j,hj,rfl⟩:=x5.mp hx
   exact zAq.mpr (O.low j _ (hg j (zAq.mp hj)))
  rw[y3,zBd,zBd] at this
  omega
 ·have ⟨j,hj⟩:=Classical.not_forall.mp c
  exact⟨j,Classical.not_imp.mp hj⟩
theorem kg.next {m:Nat}{hs:List Int}{k:Nat}{owner:Array (Option Nat)}(O:kg m hs k owner){h:Int}(hh:hs[k]?=some h){j:Nat}(hj:j < owner.size)(hn:¬ lR owner j)(hr:Reach m (lR owner) h j) :
  kg m hs (k+1) (owner.setIfInBounds j (some k)):=by
 have at_:∀x,(owner.setIfInBounds j (some k))[x]?=if j=x then (if x < owner.size then some (some k) else none) else owner[x]?:=λx=>by
  rw[Array.getElem?_setIfInBounds]
  by_cases c:j=x
  ·subst c; simp [hj]
  ·simp [c]
 have mono:∀x,lR owner x->lR (owner.setIfInBounds j (some k)) x:=λx ⟨q,e⟩=>by
  have ne:¬ j=x:=λz=>hn (z ▸ ⟨q,e⟩)
  exact⟨q,by rw[at_,xL ne]; exact e⟩
 refine⟨by simp [O.size],λq h' hq M3=>?_,λx q e=>?_,λx y q e1 e2=>?_⟩
 ·by_cases c:q=k
  ·subst c
   rw[hh] at M3
   cases M3
   exact⟨j,by rw[at_,x4 rfl,x4 hj],hr.mono mono⟩
  ·obtain⟨x,e,r⟩:=O.each q h' (by omega) M3
   have ne:¬ j=x:=λz=>hn (z ▸ ⟨q,e⟩)
   exact⟨x,by rw[at_,xL ne]; exact e,r.mono mono⟩
 ·rw[at_] at e
  by_cases c:j=x
  ·rw[x4 c] at e
   split at e
   ·cases e; omega
   ·cases e
  ·rw[xL c] at e
   have:=O.low x q e
   omega
 ·rw[at_] at e1 e2
  by_cases c1:j=x
  ·rw[x4 c1] at e1
   split at e1
   ·cases e1
    by_cases c2:j=y
    ·omega
    ·rw[xL c2] at e2
     have:=O.low y _ e2
     omega
   ·cases e1
  ·rw[xL c1] at e1
   by_cases c2:j=y
   ·rw[x4 c2] at e2
    split at e2
    ·cases e2
     have:=O.low x _ e1
     omega
    ·cases e2
   ·rw[xL c2] at e2
    exact O.inj x y q e1 e2
noncomputable def tu (m:Nat)(acc:Option (Array (Option Nat) × Nat))(h:Int):Option (Array (Option Nat) × Nat):=do
 let (owner,k) ←acc
 let j ←layClean.free m owner (turns m) (bits h % (m+1)) (bits h)
 pure (owner.setIfInBounds j (some k),k+1)
theorem Aq {m:Nat}(w:eN m)(hs:List Int)(hm:hs.length<=m):∀(rest:List Int) (k:Nat) (owner:Array (Option Nat)),k<=hs.length->kg m hs k owner->hs.drop k=rest->
  ∃owner',rest.foldl (tu m) (some (owner,k))=some (owner',hs.length)/\kg m hs hs.length owner'
 | [],k,owner,hk0,O,e=>by
  have hk:hs.length<=k:=by simpa using List.drop_eq_nil_iff.mp e
  have c:k=hs.length:=by omega
  subst c
  exact⟨owner,rfl,O⟩
 | h::rest,k,owner,hk0,O,e=>by
  have hk:k < hs.length:=by
   rcases zCq k hs.length with q | q
   ·exact q
   ·rw[List.drop_eq_nil_of_le q] at e; cases e
  have hh:hs[k]?=some h:=by
   have:=zDr (xs:=hs) (i:=k) (j:=0)
   rw[e] at this
   simpa using this.symm
  obtain⟨j,e1,hj,hn,hr⟩:=yH w O.size h (O.hole (by omega)) (turns m) 0 0 (by omega) rfl (λk hk=>absurd hk (by omega)) λl hl=>absurd hl (by omega)
  have e2:tu m (some (owner,k)) h=some (owner.setIfInBounds j (some k),k+1):=by
   unfold tu
   show (layClean.free m owner (turns m) (bits h % (m+1)) (bits h)).bind _=_
   have T5:layClean.free m owner (turns m) (bits h % (m+1)) (bits h)=some j:=e1
   rw[T5]
   rfl
  rw[foldl_cons,e2]
  exact Aq w hs hm rest (k+1) _ (by omega) (O.next hh hj hn hr) (by
   have:=zA3 (List.drop 1) e
   rw[List.drop_drop] at this
   simpa using this)
theorem zP {m:Nat}(w:eN m)(hs:List Int)(hm:hs.length<=m):∃owner,layClean m hs.toArray=some owner/\kg m hs hs.length owner:=by
 obtain⟨owner,e,O⟩:=Aq w hs hm hs 0 _ (zAw _) (kg.start m hs) rfl
 refine⟨owner,?_,O⟩
 unfold layClean
 rw[←Array.foldl_toList]
 show ((hs.foldl (tu m) (some (Array.replicate (m+1) none,0))).map (·.1))=_
 rw[e]
 rfl
noncomputable def cY (m:Nat)(owner:Array (Option Nat)):List (Nat × Nat):=(range (m+1)).filterMap λj=>(owner.getD j none).map (j,·)
theorem g8 {m:Nat}{owner:Array (Option Nat)}(hs:owner.size=m+1){x:Nat × Nat}:x∈cY m owner↔owner[x.1]?=some (some x.2):=by
 unfold cY
 rw[List.mem_filterMap]
 constructor
 ·rintro⟨j,hj,e⟩
  have hj':j < owner.size:=by rw[hs]; exact zAq.mp hj
  simp only [getD,hj',↓reduceDIte] at e
  cases c:owner[j] with
  | none=>simp [c] at e
  | some q=>
   simp [c] at e
   rw[←e]
   show owner[j]?=_
   rw[kS hj',c]
 ·intro e
  have hj:x.1 < owner.size:=by
   rcases zCq x.1 owner.size with q | q
   ·exact q
   ·rw[zBt q] at e; cases e
  refine⟨x.1,zAq.mpr (by omega),?_⟩
  rw[kS hj] at e
  have e':=zAh e
  simp [getD,hj,e']
theorem yI (m:Nat)(owner:Array (Option Nat)):((cY m owner).map (·.1)).Pairwise (· < ·):=by
 unfold cY
 rw[zBk]
 refine List.Pairwise.filterMap _ ?_ (List.pairwise_lt_range (n:=m+1))
 intro a b hab x hx y hy
 simp only [zBf] at hx hy
 obtain⟨_,_,rfl⟩:=hx
 obtain⟨_,_,rfl⟩:=hy
 exact hab
theorem o5 {m:Nat}{hs:List Int}{k:Nat}{owner:Array (Option Nat)}(O:kg m hs k owner):((cY m owner).map (·.2)).Nodup:=by
 rw[List.Nodup,zBk]
 have:=yI m owner
 rw[zBk] at this
 refine this.imp_of_mem λ{a b} ha hb hlt e=>?_
 have h1:=(g8 O.size).mp ha
 have h2:=(g8 O.size).mp hb
 rw[e] at h1
 have:=O.inj _ _ _ h1 h2
 omega
theorem As {m:Nat}{hs:List Int}{owner:Array (Option Nat)}(O:kg m hs hs.length owner):(cY m owner).length=hs.length:=by
 have h1:=cR (l2:=range hs.length) (o5 O) λx hx=>by
  obtain⟨y,hy,rfl⟩:=x5.mp hx
  exact zAq.mpr (O.low _ _ ((g8 O.size).mp hy))
 have h2:=cR (l1:=range hs.length) (l2:=(cY m owner).map (·.2)) List.nodup_range λx hx=>by
  have hx:=zAq.mp hx
  obtain⟨j,e,_⟩:=O.each x hs[x] hx (xI hx)
  exact x5.mpr ⟨(j,x),(g8 O.size).mpr e,rfl⟩
 rw[y3,zBd] at h1 h2
 omega
theorem FN {m:Nat}(w:eN m)(finger moves:Nat)(led plain:Bool)(hs:List Int)(hm:hs.length<=m) :
  ∃t order,laid m finger moves led plain hs.toArray=some (t,order)/\t.mask=m/\t.led=led/\t.plain=plain/\t.dummies=#[]/\order.toList.length=hs.length/\order.toList.Nodup/\(∀q∈order.toList,q < hs.length)/\
   kc t (order.toList.map λq=>hs.getD q 0):=by
 obtain⟨owner,e,O⟩:=zP w hs hm
 refine⟨{ mask:=m,place:=((cY m owner).map (·.1)).toArray,dummies:=#[],finger,led,moves,plain },((cY m owner).map (·.2)).toArray,?_,rfl,rfl,rfl,rfl,?_,o5 O,?_,?_⟩
 ·unfold laid
  rw[e]
  rfl
 ·show ((cY m owner).map (·.2)).length=_
  rw[y3,As O]
 ·intro q hq
  obtain⟨y,hy,rfl⟩:=x5.mp (show q∈(cY m owner).map (·.2) from hq)
  exact O.low _ _ ((g8 O.size).mp hy)
 ·have occ:∀x,lR owner x->x∈(cY m owner).map (·.1):=λx ⟨q,e⟩=>x5.mpr ⟨(x,q),(g8 O.size).mpr e,rfl⟩
  refine⟨⟨uU.mpr (yI m owner),rfl⟩,w,?_,?_,?_,?_⟩
  ·show ((cY m owner).map (·.1)).length=((((cY m owner).map (·.2))).map _).length
   simp
  ·intro j hj
   obtain⟨y,hy,rfl⟩:=x5.mp (show j∈(cY m owner).map (·.1) from hj)
   have:=(g8 O.size).mp hy
   have hlt:y.1 < owner.size:=by
    rcases zCq y.1 owner.size with q | q
    ·exact q
    ·rw[zBt q] at this; cases this
   show y.1<=m
   have:=O.size
   omega
  ·show ((((cY m owner).map (·.2))).map _).length<=m
   rw[y3,y3,As O]
   exact hm
  ·intro x hx
   have hx':x∈((cY m owner).map (·.1)).zip (((cY m owner).map (·.2)).map λq=>hs.getD q 0):=hx
   rw[zAy,List.zip_map'] at hx'
   obtain⟨y,hy,rfl⟩:=x5.mp hx'
   have e1:=(g8 O.size).mp hy
   have hq:=O.low _ _ e1
   have e2:hs[y.2]?=some (hs.getD y.2 0):=by simp [hq]
   obtain⟨j,e3,r⟩:=O.each y.2 _ hq e2
   have:=O.inj _ _ _ e1 e3
   show Reach m _ (hs.getD y.2 0) y.1
   rw[this]
   exact r.mono occ
section
variable {prog:Program}{w:World}{K:Type}[DecidableEq K]{knd:KeyKind prog w K}{A:Around}{E:zzE}{s:Shared}
theorem Au (n:Nat){v:Value}(h:carriedByValue v=true):ofAClassStatement n v=pure false:=by
 cases v with
 | ref a=>simp [carriedByValue] at h
 | _=>unfold ofAClassStatement; rfl
theorem qu {ks:List K}{a:Addr}{Q:Bool->Shared->Prop}(hk:IsTupleKey knd s.heap ks a)(h:Q false s):wpAny (model prog w) A (ofAClassStatement 8 (.ref a)) Q E s:=by
 have hT:=hk.typeIs
 obtain⟨o,items,n,ho,_,hd,hi⟩:=hk
 unfold ofAClassStatement
 refine yB (zD3 hT ?_)
 dsimp only
 rw[x4 (by decide)]
 refine yB (y6 ?_)
 simp only [zDw,zAi,zBa]
 refine yB (zCk ho hd ?_)
 dsimp only
 refine yB ?_
 rw[←zC5]
 refine zD4 _ (λrest r s'=>r.1=none/\s'=s/\∀v∈rest,carriedByValue v=true) _ ?_ ?_ _ _ ⟨rfl,rfl,hi.byValue⟩
 ·rintro v rest r s' ⟨hr,rfl,all⟩
  rw[Au _ (all v zAs)]
  refine yB (y6 ?_)
  simp only [zAi,zBa]
  exact y6 ⟨rfl,rfl,λu hu=>all u (zAr _ hu)⟩
 ·rintro⟨r1,r2⟩ s' ⟨hr,rfl,_⟩
  cases hr
  exact y6 h
theorem M4 {ks:List K}{x:Addr}{ys:List Value}{Q:Bool->Shared->Prop}(hx:IsTupleKey knd s.heap ks x)(hy:∀v∈ys,∃a ks',v=.ref a/\IsTupleKey knd s.heap ks' a)(h:Q false s) :
  wpAny (model prog w) A (searchCouldBeSeen (.ref x) ys) Q E s:=by
 unfold searchCouldBeSeen
 refine yB ?_
 refine zD4 _ (λrest r s'=>r.1=none/\s'=s/\∀v∈rest,∃a ks',v=.ref a/\IsTupleKey knd s.heap ks' a) _ ?_ ?_ _ _ ⟨rfl,rfl,hy⟩
 ·rintro v rest r s' ⟨hr,rfl,all⟩
  obtain⟨a,ks',rfl,ha⟩:=all v zAs
  have fin:(λr (s'':Shared)=>match r with | ForInStep.yield b'=>(λ(rest:List Value) (r:Option Bool × PUnit) s''=>r.1=none/\s''=s'/\∀v∈rest,∃a ks',v=.ref a/\IsTupleKey knd s'.heap ks' a) rest b' s'' | .done b'=>wpAny (model prog w) A (match b'.1 with | none=>pure false | some a=>pure a) Q E s'') (ForInStep.yield (none,())) s':=⟨rfl,rfl,λu hu=>all u (zAr _ hu)⟩
  dsimp only
  by_cases c:(x == a||(carriedByValue (.ref x)&&carriedByValue (.ref a)))=true
  ·rw[x4 c]
   exact y6 fin
  ·rw[xL c]
   refine yB (wpAny_eqIsQuiet_tuple hx ?_)
   simp only [zDw,zAi,zBa]
   refine yB (wpAny_eqIsQuiet_tuple ha ?_)
   simp only [zDw,zAi,zBa]
   refine yB (qu hx ?_)
   simp only [zAi,zBa]
   refine yB (qu ha ?_)
   simp only [zAi,zBa]
   exact y6 fin
 ·rintro⟨r1,r2⟩ s' ⟨hr,rfl,_⟩
  cases hr
  exact y6 h
end
section
variable {prog:Program}{w:World}{K:Type}[DecidableEq K]{knd:KeyKind prog w K}{A:Around}{E:zzE}{s:Shared}
noncomputable def ent (knd:KeyKind prog w K)(p:Addr × List K):Int × Value:=(tupleKeyHash knd p.2,.ref p.1)
noncomputable def hsh (knd:KeyKind prog w K)(p:Addr × List K):Int:=tupleKeyHash knd p.2
theorem vI (knd:KeyKind prog w K)(ps:List (Addr × List K))(i:Nat):(ps.map (ent knd)).toArray[i]?=(ps[i]?).map (ent knd):=by simp
theorem LD (t:SetTable):t.sameMemory t.moves t.mask=some true:=by
 unfold SetTable.sameMemory
 simp
theorem FO {t:SetTable}{j:Nat}(h:j∈t.place.toList):∃i:Nat,t.place[i]?=some j:=by
 obtain⟨i,hi⟩:=zB2.mp h
 exact⟨i,by simpa using hi⟩
theorem Iq {α:Type}{c:Bool}{X:Sem Bool}{U R:Sem α}{Q:α->Shared->Prop}(hX:c=true->∀Q':Bool->Shared->Prop,Q' false s->wpAny (model prog w) A X Q' E s)(hR:wpAny (model prog w) A R Q E s) :
  wpAny (model prog w) A (if c=true then (do let b ←X; if b=true then U else R) else R) Q E s:=by
 by_cases h:c=true
 ·rw[x4 h]
  refine yB (hX h _ ?_)
  rw[xL (by decide)]
  exact hR
 ·rw[xL h]
  exact hR
theorem search {S x:Addr}{o:Obj}{ep:Nat}{t:SetTable}{ps:List (Addr × List K)}{ks:List K}{h:Int}{N:Nat}{Q:SetFound->Shared->Prop}(hu:A.units < cLine)
  (ho:s.heap.get? S=some o) (hd:o.data=.set (ps.map (ent knd)).toArray ep t) (H:kc t (ps.map (hsh knd))) (odd:t.gaveWay=false) (hh:h=tupleKeyHash knd ks)
  (tups:∀p∈ps,IsTupleKey knd s.heap p.2 p.1) (hx:IsTupleKey knd s.heap ks x)
  (hN:N < 10 * SetTable.turns t.mask) (free:(pr t.mask h N).j∉t.place.toList) (occ:∀k,k < N->(pr t.mask h k).j∈t.place.toList)
  (yes:(∃p∈ps,p.2=ks)->Q (.there none) s) (no:(∀p∈ps,p.2≠ks)->Q (.free (pr t.mask h N).j false) s) :
  ∀(d n fuel:Nat) (stand:Option SetTable.Probe),N - n=d->n<=N->d < fuel->stand.getD (t.probeStart h)=pr t.mask h n->
   (∀(i:Nat) (p:Addr × List K),ps[i]?=some p->p.2=ks->∀k,k < n->t.place[i]?≠some (pr t.mask h k).j)->wpAny (model prog w) A (setSearchFrom S (.ref x) h true fuel stand) Q E s:=by
 have hfit:t.fits (ps.map (ent knd)).toArray.size=true:=by
  have h1:=H.size
  have h2:=H.room
  simp only [SetTable.fits,SetTable.fill,H.plain.CZ,zBy,zDz,zDg]
  simp only [u8,y3] at h1 h2
  simp
  omega
 have Rn:∀(i:Nat) (p:Addr × List K),ps[i]?=some p->(((ps.map (ent knd)).toArray[i]?).map (·.1)).getD 0=tupleKeyHash knd p.2:=λi p e=>by
  rw[vI,e]; rfl
 have SK:∀(i j:Nat),t.place[i]?=some j->∃p,ps[i]?=some p:=λi j e=>by
  have hi:i < t.place.size:=by
   rcases zCq i t.place.size with q | q
   ·exact q
   ·rw[zBt q] at e; cases e
  have h1:=H.size
  simp only [u8,y3] at h1
  exact⟨ps[i],xI (by omega)⟩
 intro d
 induction d using Nat.strongRecOn with
 | _ d ih=>
  intro n fuel stand hdn Xy hf hst hno
  obtain⟨f,rfl⟩:∃f,fuel=f+1:=⟨fuel - 1,by omega⟩
  unfold setSearchFrom
  refine yB (zBw ho hd hfit ?_)
  dsimp only
  simp only [odd,zAi,zBa]
  have Qy:(pr t.mask h (n+(N - n))).j∉t.place.toList\/∃(i:Nat) (p:Addr × List K),t.place[i]?=some (pr t.mask h (n+(N - n))).j/\ps[i]?=some p/\tupleKeyHash knd p.2=h:=.inl (by rw[show n+(N - n)=N by omega]; exact free)
  haveI:DecidablePred λe:Nat=>(pr t.mask h (n+e)).j∉t.place.toList\/∃(i:Nat) (p:Addr × List K),t.place[i]?=some (pr t.mask h (n+e)).j/\ps[i]?=some p/\tupleKeyHash knd p.2=h:=λ_=>Classical.propDecidable _
  obtain⟨e,he,stop,before⟩:=least (p:=λe:Nat=>(pr t.mask h (n+e)).j∉t.place.toList\/∃(i:Nat) (p:Addr × List K),t.place[i]?=some (pr t.mask h (n+e)).j/\ps[i]?=some p/\tupleKeyHash knd p.2=h) (N - n) Qy
  have pass:∀k,k < e->∃i,t.slot (pr t.mask h (n+k)).j=.live i/\((((ps.map (ent knd)).toArray[i]?).map (·.1)).getD 0 == h)=false:=λk hk=>by
   obtain⟨i,hi⟩:=FO (occ (n+k) (by omega))
   obtain⟨p,hp⟩:=SK i _ hi
   refine⟨i,qY H.plain hi,?_⟩
   rw[Rn i p hp]
   have nb:=before k hk
   have:¬ tupleKeyHash knd p.2=h:=λz=>nb (.inr ⟨i,p,hi,hp,z⟩)
   simpa using this
  by_cases c:(pr t.mask h (n+e)).j∈t.place.toList
  ·
   obtain⟨i,p,hi,hp,T6⟩:∃(i:Nat) (p:Addr × List K),t.place[i]?=some (pr t.mask h (n+e)).j/\ps[i]?=some p/\tupleKeyHash knd p.2=h:=by
    rcases stop with q | q
    ·exact absurd c q
    ·exact q
   have hlt:n+e < N:=by
    rcases zCq (n+e) N with q | q
    ·exact q
    ·have:n+e=N:=by omega
     rw[this] at c
     exact absurd c free
   have hpr:∀g:Nat->Int,(∀i,g i=(((ps.map (ent knd)).toArray[i]?).map (·.1)).getD 0)->t.probe g h (stand.getD (t.probeStart h))=some (.candidate (pr t.mask h (n+e)).j i (pr t.mask h (n+e+1))):=λg hg=>by
    obtain rfl:g=λi=>(((ps.map (ent knd)).toArray[i]?).map (·.1)).getD 0:=funext hg
    rw[hst]
    exact C3 e _ n (by omega) pass (qY H.plain hi) (by rw[Rn i p hp,T6]; simp)
   rw[hpr]
   rotate_left
   ·intro i; rfl
   dsimp only
   have J1:p∈ps:=zAj hp
   refine Iq (λ_ Q' q'=>M4 hx (λv hv=>?_) q') ?_
   ·obtain⟨y,hy,rfl⟩:=x5.mp hv
    have Av:y∈(ps.map (ent knd)):=by
     have:=Array.mem_toList_iff.mp hy
     have:=(Array.mem_filter.mp this).1
     simpa using this
    obtain⟨p',uo,rfl⟩:=x5.mp Av
    exact⟨p'.1,p'.2,rfl,tups p' uo⟩
   rw[vI,hp]
   dsimp only [Option.map_some,ent]
   refine yB (zBs (wpAny_eqBool_tuple hu (tups p J1) hx ?_))
   refine yB (zBw ho hd hfit ?_)
   dsimp only
   by_cases ek:p.2=ks
   ·rw[zAm ek]
    simp only [Bool.and_self,zCt]
    exact y6 (yes ⟨p,J1,ek⟩)
   ·rw[zAv ek]
    simp only [Bool.and_false,zAi,zBa]
    rw[LD]
    dsimp only
    rw[x4 rfl,qY H.plain hi]
    dsimp only
    rw[vI,hp]
    dsimp only [Option.map_some,ent]
    refine yB (wpAny_isSame_ref_self (yB (y6 ?_)))
    rw[x4 rfl]
    dsimp only
    refine ih (N - (n+e+1)) (by omega) (n+e+1) f _ rfl (by omega) (by omega) rfl λi' p' uo hk' k hk=>?_
    by_cases c1:k < n
    ·exact hno i' p' uo hk' k c1
    ·by_cases c2:k < n+e
     ·intro z
      have:=before (k - n) (by omega)
      rw[show n+(k - n)=k by omega] at this
      exact this (.inr ⟨i',p',z,uo,by rw[hk',hh]⟩)
     ·have:k=n+e:=by omega
      subst this
      intro z
      have e1:=mW H.plain.rise z
      have e2:=mW H.plain.rise hi
      have:i'=i:=by omega
      subst this
      rw[hp] at uo
      cases uo
      exact ek hk'
  ·
   have hpr:∀g:Nat->Int,(∀i,g i=(((ps.map (ent knd)).toArray[i]?).map (·.1)).getD 0)->t.probe g h (stand.getD (t.probeStart h))=some (.empty (pr t.mask h (n+e)).j none):=λg hg=>by
    obtain rfl:g=λi=>(((ps.map (ent knd)).toArray[i]?).map (·.1)).getD 0:=funext hg
    rw[hst]
    exact Ao e _ n (by omega) pass (Ej H.plain c)
   rw[hpr]
   rotate_left
   ·intro i; rfl
   dsimp only
   have hNe:n+e=N:=by
    rcases zCq (n+e) N with q | q
    ·exact absurd (occ _ q) c
    ·omega
   rw[hNe]
   refine y6 (no λp J1 ek=>?_)
   obtain⟨i,hp⟩:=zB2.mp J1
   have hz:∃j,t.place[i]?=some j/\(j,hsh knd p)∈t.place.toList.zip (ps.map (hsh knd)):=by
    have h1:=H.size
    simp only [u8,y3] at h1
    have hi:i < ps.length:=(zAp.mp hp).1
    refine⟨t.place[i]'(by omega),kS _,zB2.mpr ⟨i,?_⟩⟩
    rw[List.getElem?_zip_eq_some]
    refine⟨by simp [show i < t.place.size by omega],?_⟩
    rw[wP,hp]
    rfl
   obtain⟨j,hj,T7⟩:=hz
   obtain⟨n0,e0,b0⟩:=H.reach _ T7
   have J2:(pr t.mask h n0).j=j:=by
    have:hsh knd p=h:=by unfold hsh; rw[ek,hh]
    rw[this] at e0
    exact e0
   have T9:∀k,k < n0->(pr t.mask h k).j∈t.place.toList:=λk hk=>by
    have:hsh knd p=h:=by unfold hsh; rw[ek,hh]
    rw[this] at b0
    exact b0 k hk
   have jm:j∈t.place.toList:=by
    have:=Array.mem_of_getElem? hj
    exact Array.mem_toList_iff.mpr this
   have hn0:n0 < N:=by
    rcases Nat.lt_trichotomy n0 N with q | q | q
    ·exact q
    ·rw[q] at J2; rw[J2] at free; exact absurd jm free
    ·exact absurd (T9 N q) free
   by_cases c1:n0 < n
   ·exact hno i p hp ek n0 c1 (by rw[J2]; exact hj)
   ·have:=before (n0 - n) (by omega)
    rw[show n+(n0 - n)=n0 by omega] at this
    exact this (.inr ⟨i,p,by rw[J2]; exact hj,hp,by rw[ek,hh]⟩)
end
section
variable {prog:Program}{w:World}{K:Type}[DecidableEq K]{knd:KeyKind prog w K}{A:Around}{E:zzE}{s:Shared}
noncomputable def eV (m n:Nat):Prop:=(m=7/\n < 5)\/(m=31/\n < 19)\/(m=127/\n < 77)\/(m=511/\n < 307)
theorem eV.whole {m n:Nat}(h:eV m n):eN m:=by
 rcases h with ⟨rfl,_⟩ | ⟨rfl,_⟩ | ⟨rfl,_⟩ | ⟨rfl,_⟩
 ·exact FI
 ·exact LA
 ·exact Im
 ·exact Io
theorem eV.odd {t:SetTable}{n:Nat}(h:eV t.mask n):t.gaveWay=false:=by
 unfold SetTable.gaveWay
 rcases h with ⟨e,_⟩ | ⟨e,_⟩ | ⟨e,_⟩ | ⟨e,_⟩ <;> rw[e] <;> rfl
noncomputable def eO (knd:KeyKind prog w K)(h:Heap)(S:Addr)(ps:List (Addr × List K)):Prop:=∃o ep t,h.get? S=some o/\o.ExactSet/\o.data=.set (ps.map (ent knd)).toArray ep t/\kc t (ps.map (hsh knd))/\(t.plain=true/\t.led=!w.params.followText "set-order")/\eV t.mask ps.length/\(ps.map (·.2)).Nodup
noncomputable def tw (knd:KeyKind prog w K):Prop:=∀(n:Nat) (k:K) (v:Value),knd.is k v=true->hashByValue n v=pure true
theorem CI (hb:tw knd){ks:List K}{vs:List Value}(hi:ItemsAre knd ks vs):∀v∈vs,∀n,hashByValue n v=pure true:=by
 induction hi with
 | nil=>intro v hv; cases hv
 | cons h1 _ ih=>
  intro v hv n
  rcases wS.mp hv with rfl | hv
  ·exact hb n _ _ h1
  ·exact ih v hv n
theorem zQ (hb:tw knd){ks:List K}{a:Addr}{Q:Bool->Shared->Prop}(hk:IsTupleKey knd s.heap ks a)(h:Q true s):wpAny (model prog w) A (hashByValue 8 (.ref a)) Q E s:=by
 have hT:=hk.typeIs
 obtain⟨o,items,n,ho,_,hd,hi⟩:=hk
 unfold hashByValue
 refine yB (zEd hT F.slot_tuple_hash.lookup ?_)
 show wpAny _ _ ((seqItems? (.ref a)) >>= _) _ _ s
 refine yB (zCk ho hd ?_)
 refine yB ?_
 show wpAny _ _ (forIn items _ _) _ _ s
 rw[←zC5]
 refine zD4 _ (λrest r s'=>r.1=none/\s'=s/\∀v∈rest,∀n,hashByValue n v=pure true) _ ?_ ?_ _ _ ⟨rfl,rfl,CI hb hi⟩
 ·rintro v rest r s' ⟨hr,rfl,all⟩
  rw[all v zAs]
  refine yB (y6 ?_)
  simp only [zDw,zAi,zBa]
  exact y6 ⟨rfl,rfl,λu hu=>all u (zAr _ hu)⟩
 ·rintro⟨r1,r2⟩ s' ⟨hr,rfl,_⟩
  cases hr
  exact y6 h
noncomputable def picked (ps:List (Addr × List K))(order:List Nat):List (Addr × List K):=order.filterMap (ps[·]?)
theorem p8 {β:Type}(f:Addr × List K->β)(ps:List (Addr × List K))(d:β):∀(order:List Nat),(∀q∈order,q < ps.length)->(picked ps order).map f=order.map λq=>(ps.map f).getD q d
 | [],_=>rfl
 | q::r,h=>by
  have hq:=h q zAs
  have ih:=p8 f ps d r λx hx=>h x (zAr _ hx)
  unfold picked at ih ⊢
  rw[List.filterMap_cons,xI hq]
  show f ps[q]::_=_
  rw[ih,zAo]
  congr 1
  simp [hq]
theorem Ek (ps:List (Addr × List K))(order:Array Nat):(order.filterMap λq=>(ps.map (ent knd)).toArray[q]?)=((picked ps order.toList).map (ent knd)).toArray:=by
 apply Array.toList_inj.mp
 rw[Array.toList_filterMap]
 unfold picked
 rw[List.map_filterMap]
 show List.filterMap _ _=List.filterMap _ _
 congr 1
 funext q
 rw[vI]
theorem El {ps:List (Addr × List K)}{order:List Nat}(nd:order.Nodup)(hl:order.length=ps.length)(hb:∀q∈order,q < ps.length){p:Addr × List K}:p∈picked ps order↔p∈ps:=by
 unfold picked
 rw[List.mem_filterMap]
 constructor
 ·rintro⟨q,_,e⟩
  exact zAj e
 ·intro hp
  obtain⟨q,e⟩:=zB2.mp hp
  have hq:q < ps.length:=(zAp.mp e).1
  refine⟨q,?_,e⟩
  by_cases c:q∈order
  ·exact c
  ·have:=cR (l2:=(range ps.length).erase q) nd λx hx=>(List.mem_erase_of_ne (λ(z:x=q)=>c (z ▸ hx))).mpr (zAq.mpr (hb x hx))
   rw[List.length_erase_of_mem (zAq.mpr hq),zBd] at this
   omega
theorem Aw {ps:List (Addr × List K)}{order:List Nat}(nd:order.Nodup)(hb:∀q∈order,q < ps.length)(hk:(ps.map (·.2)).Nodup):((picked ps order).map (·.2)).Nodup:=by
 unfold picked
 rw[List.Nodup,zBk]
 refine List.Pairwise.filterMap _ ?_ nd
 intro a b hab x hx y hy e
 have ha:ps[a]?=some x:=hx
 have hb:ps[b]?=some y:=hy
 apply hab
 have h1:(ps.map (·.2))[a]?=some x.2:=by rw[wP,ha]; rfl
 have h2:(ps.map (·.2))[b]?=some x.2:=by rw[wP,hb,e]; rfl
 have la:=(zAp.mp h1).1
 exact (List.getElem?_inj la hk).mp (h1.trans h2.symm)
theorem C4 {h:Heap}{S:Addr}{o:Obj}{es:Array (Int × Value)}{ep:Nat}{t:SetTable}(ho:h.get? S=some o)(hd:o.data=.set es ep t)(es':Array (Int × Value))(t':SetTable) :
  (h.update S (Obj.putSet es' t')).get? S=some { o with data:=.set es' (ep+1) t' }:=by
 have e:=putSet_of es' t' hd
 rw[zB4 _ ho (by rw[e]; rfl),e]
theorem Qz {S:Addr}{o:Obj}{ep wanted m:Nat}{t:SetTable}{ps:List (Addr × List K)}{Q:Unit->Shared->Prop}(ho:s.heap.get? S=some o)(hex:o.ExactSet)(hd:o.data=.set (ps.map (ent knd)).toArray ep t)(H:kc t (ps.map (hsh knd)))(hp:t.plain=true/\t.led=!w.params.followText "set-order")
  (hk:(ps.map (·.2)).Nodup) (hw:SetTable.sizeAbove wanted=m+1) (hm:eV m ps.length) (hlm:ps.length<=m)
  (h:∀h' ps',Heap.SameBut S s.heap h'->eO knd h' S ps'->(∀p,p∈ps'↔p∈ps)->ps'.length=ps.length->Q () { s with heap:=h' }):wpAny (model prog w) A (setRelay S wanted) Q E s:=by
 have hfit:t.fits (ps.map (ent knd)).toArray.size=true:=by
  have h1:=H.size
  have h2:=H.room
  simp only [SetTable.fits,SetTable.fill,H.plain.CZ,zBy,zDz,zDg]
  simp only [u8,y3] at h1 h2
  simp
  omega
 have Xe:m<=511:=by rcases hm with ⟨rfl,_⟩ | ⟨rfl,_⟩ | ⟨rfl,_⟩ | ⟨rfl,_⟩ <;> decide
 unfold setRelay
 refine yB (zBw ho hd hfit ?_)
 dsimp only
 rw[xL (by rw[hw,zAk]; omega)]
 obtain⟨t',order,e,e1,e2,e3,e4,e5,e6,e7,H'⟩:=FN hm.whole t.finger (t.movedTo m) t.led t.plain (ps.map (hsh knd)) (by rw[y3]; exact hlm)
 rw[y3] at e5 e7
 have hr:t.relaid ((ps.map (ent knd)).toArray.map (·.1)) wanted=some (t',order):=by
  unfold SetTable.relaid
  rw[hw]
  have:(ps.map (ent knd)).toArray.map (·.1)=(ps.map (hsh knd)).toArray:=by
   apply Array.toList_inj.mp
   simp [hsh,ent]
  rw[this]
  exact e
 rw[hr]
 have es':=Ek (knd:=knd) ps order
 have hlen:(picked ps order.toList).length=ps.length:=by
  have:=zA3 length (p8 (λp=>p) ps (default:Addr × List K) order.toList e7)
  simpa [e5] using this
 have hmem:∀p,p∈picked ps order.toList↔p∈ps:=λp=>El e6 e5 e7
 have hH:kc t' ((picked ps order.toList).map (hsh knd)):=by
  rw[p8 (hsh knd) ps 0 order.toList e7]
  exact H'
 refine yB ?_
 show wpAny (model prog w) A (if ((order.filterMap λq=>(ps.map (ent knd)).toArray[q]?).size != (ps.map (ent knd)).toArray.size)=true then _ else pure (_,_)) _ E s
 rw[es',xL (by simp [hlen])]
 refine y6 ?_
 dsimp only
 refine wpAny_storeSet_of ho hd ?_ (by rw[zAk]; simp [hlen]; omega)
 refine h _ (picked ps order.toList) (zB1 _ _ _) ?_ hmem hlen
 exact⟨_,ep+1,t',C4 ho hd _ _,hex,rfl,hH,by rw[e3,e2]; exact hp,by rw[e1,hlen]; exact hm,Aw e6 e7 hk⟩
theorem eV.next {t:SetTable}{n:Nat}(h:eV t.mask n)(hn:n < 306)(hf:t.place.size=n+1)(hdm:t.dummies=#[]):(t.tooFull=false->eV t.mask (n+1))/\(t.tooFull=true->∃m,SetTable.sizeAbove (SetTable.grown (n+1))=m+1/\eV m (n+1)/\n+1<=m):=by
 have fill:t.fill=n+1:=by unfold SetTable.fill; rw[hf,hdm]; rfl
 unfold SetTable.tooFull
 rw[fill]
 unfold eV at h ⊢
 rcases h with ⟨e,h⟩ | ⟨e,h⟩ | ⟨e,h⟩ | ⟨e,h⟩
 ·rw[e]
  constructor
  ·intro c
   have:¬ (n+1) * 5 >= 7 * 3:=by simpa using c
   exact .inl ⟨rfl,by omega⟩
  ·intro c
   have c':(n+1) * 5 >= 7 * 3:=by simpa using c
   have:n=4:=by omega
   subst this
   exact⟨31,by decide,.inr (.inl ⟨rfl,by omega⟩),by omega⟩
 ·rw[e]
  constructor
  ·intro c
   have:¬ (n+1) * 5 >= 31 * 3:=by simpa using c
   exact .inr (.inl ⟨rfl,by omega⟩)
  ·intro c
   have c':(n+1) * 5 >= 31 * 3:=by simpa using c
   have:n=18:=by omega
   subst this
   exact⟨127,by decide,.inr (.inr (.inl ⟨rfl,by omega⟩)),by omega⟩
 ·rw[e]
  constructor
  ·intro c
   have:¬ (n+1) * 5 >= 127 * 3:=by simpa using c
   exact .inr (.inr (.inl ⟨rfl,by omega⟩))
  ·intro c
   have c':(n+1) * 5 >= 127 * 3:=by simpa using c
   have:n=76:=by omega
   subst this
   exact⟨511,by decide,.inr (.inr (.inr ⟨rfl,by omega⟩)),by omega⟩
 ·rw[e]
  constructor
  ·intro c
   exact .inr (.inr (.inr ⟨rfl,by omega⟩))
  ·intro c
   have c':(n+1) * 5 >= 511 * 3:=by simpa using c
   omega
theorem eV.room {m n:Nat}(h:eV m n):n+1<=m:=by
 rcases h with ⟨rfl,_⟩ | ⟨rfl,_⟩ | ⟨rfl,_⟩ | ⟨rfl,_⟩ <;> omega
theorem Ax {α β:Type}(f:α->β)(l:List α)(p:Nat)(x:α)(h:p<=l.length):SetTable.insertAt (l.map f).toArray p (f x)=((l.take p++x::l.drop p).map f).toArray:=by
 apply Array.toList_inj.mp
 rw[qt _ _ _ (by simpa using h)]
 simp
theorem add {S x:Addr}{ps:List (Addr × List K)}{ks:List K}{Q:Bool->Shared->Prop}(hb:tw knd)(hu:A.units < cLine)(hS:eO knd s.heap S ps)(tups:∀p∈ps,IsTupleKey knd s.heap p.2 p.1)(hx:IsTupleKey knd s.heap ks x)(hn:ps.length < 306)
  (h:∀b h' ps',Heap.SameBut S s.heap h'->eO knd h' S ps'->(∀p,p∈ps'->p∈ps\/p=(x,ks))->(∀p∈ps,p∈ps')->(∃p∈ps',p.2=ks)->ps'.length<=ps.length+1->Q b { s with heap:=h' }) :
  wpAny (model prog w) A (setAddHashed S (.ref x) (tupleKeyHash knd ks)) Q E s:=by
 obtain⟨o,ep,t,ho,hex,hd,H,hp,hm,hk⟩:=id hS
 have hfit:t.fits (ps.map (ent knd)).toArray.size=true:=by
  have h1:=H.size
  have h2:=H.room
  simp only [SetTable.fits,SetTable.fill,H.plain.CZ,zBy,zDz,zDg]
  simp only [u8,y3] at h1 h2
  simp
  omega
 unfold setAddHashed
 refine zBs ?_
 unfold setAddHashedIn
 refine yB (zBw ho hd hfit ?_)
 dsimp only
 have FP:byScan (.ref x) (ps.map (ent knd)).toArray=false:=rfl
 rw[FP]
 simp only [zAi,zBa]
 obtain⟨N,hN,free,occ⟩:=H.first (tupleKeyHash knd ks)
 have htb:SetTable.turns t.mask<=526:=by
  unfold SetTable.turns
  rcases hm with ⟨e,_⟩ | ⟨e,_⟩ | ⟨e,_⟩ | ⟨e,_⟩ <;> omega
 unfold setSearch
 refine yB (search (ks:=ks) (x:=x) hu ho hd H hm.odd rfl tups hx hN free occ (λyes=>?_) (λno=>?_) N 0 100000 none (by omega) (zAw _) (by omega) rfl λ_ _ _ _ k hk=>absurd hk (by omega))
 ·dsimp only
  refine y6 ?_
  have:=h false s.heap ps ⟨rfl,λ_ _=>rfl⟩ hS (λp hp=>.inl hp) (λp hp=>hp) yes (by omega)
  exact this
 ·dsimp only
  refine yB (zBw ho hd hfit ?_)
  dsimp only
  have hj:=(An t.mask (tupleKeyHash knd ks) N).1
  obtain⟨b1,b2,b3,b4,H2⟩:=H.put free hj ⟨N,rfl,occ⟩ (by rw[y3]; exact hm.room)
  rw[y3] at b1 b3
  have hpl:(t.put (pr t.mask (tupleKeyHash knd ks) N).j).1.plain=true/\(t.put (pr t.mask (tupleKeyHash knd ks) N).j).1.led=!w.params.followText "set-order":=hp
  rw[hpl.1]
  simp only [zCt]
  refine yB (zQ hb hx ?_)
  simp only [zCt]
  have arr:SetTable.insertAt (ps.map (ent knd)).toArray (t.put (pr t.mask (tupleKeyHash knd ks) N).j).2 (tupleKeyHash knd ks,Value.ref x)=((ps.take (t.put (pr t.mask (tupleKeyHash knd ks) N).j).2++(x,ks)::ps.drop (t.put (pr t.mask (tupleKeyHash knd ks) N).j).2).map (ent knd)).toArray:=
   Ax (ent knd) ps _ (x,ks) b1
  rw[arr]
  generalize hp2:(t.put (pr t.mask (tupleKeyHash knd ks) N).j).2=q at *
  have H3:kc (t.put (pr t.mask (tupleKeyHash knd ks) N).j).1 ((ps.take q++(x,ks)::ps.drop q).map (hsh knd)):=by
   have e:(ps.take q++(x,ks)::ps.drop q).map (hsh knd)=(ps.map (hsh knd)).take q++tupleKeyHash knd ks::(ps.map (hsh knd)).drop q:=by
    rw[v4,zAo,map_take,map_drop]
    rfl
   rw[e]
   exact H2
  generalize Ir:ps.take q++(x,ks)::ps.drop q=ps' at *
  have hlen:ps'.length=ps.length+1:=by
   rw[←Ir,zAb,zBq,zA9,zBx]
   omega
  have hmem:∀p,p∈ps'↔p=(x,ks)\/p∈ps:=λp=>by rw[←Ir]; exact s_
  have hk':(ps'.map (·.2)).Nodup:=by
   rw[←Ir,v4,zAo,map_take,map_drop]
   have Ro:ks∉ps.map (·.2):=λz=>by
    obtain⟨p,hp,e⟩:=x5.mp z
    exact no p hp e
   have sp:((ps.map (·.2)).take q++(ps.map (·.2)).drop q).Nodup:=by rw[zB3]; exact hk
   rw[zB5] at sp ⊢
   refine⟨sp.1,zCd.mpr ⟨λz=>Ro (zCi z),sp.2.1⟩,λa ha b hb e=>?_⟩
   rcases wS.mp hb with rfl | hb
   ·exact Ro (e ▸ zDb ha)
   ·exact sp.2.2 a ha b hb e
  generalize Xk:(t.put (pr t.mask (tupleKeyHash knd ks) N).j).1=t2 at *
  have hsz:(ps'.map (ent knd)).toArray.size<=sizeLine:=by rw[zAk]; simp [hlen]; omega
  refine yB (wpAny_storeSet_of ho hd ?_ hsz)
  have hm2:eV t2.mask ps.length:=by rw[b2]; exact hm
  obtain⟨n1,n2⟩:=hm2.next hn b3 b4
  have hget:=C4 ho hd (ps'.map (ent knd)).toArray t2
  have first:(∀p,p∈ps'->p∈ps\/p=(x,ks))/\(∀p∈ps,p∈ps')/\(∃p∈ps',p.2=ks):=⟨λp hp=>((hmem p).mp hp).symm,λp hp=>(hmem p).mpr (.inr hp),(x,ks),(hmem _).mpr (.inl rfl),rfl⟩
  have T_:(ps.map (ent knd)).toArray.size+1=ps.length+1:=by simp
  cases c:t2.tooFull with
  | false=>
   simp only [Bool.not_false,Bool.and_false,zAi,zBa]
   refine y6 ?_
   refine h true _ ps' (zB1 _ _ _) ?_ first.1 first.2.1 first.2.2 (by omega)
   exact⟨_,ep+1,t2,hget,hex,rfl,H3,hpl,by rw[hlen]; exact n1 c,hk'⟩
  | true=>
   simp only [Bool.not_false,Bool.and_self,zCt]
   obtain⟨m,w1,w2,w3⟩:=n2 c
   rw[T_]
   refine yB (Qz (s:={ s with heap:=s.heap.update S (Obj.putSet (ps'.map (ent knd)).toArray t2) }) hget hex rfl H3 hpl hk' w1 (by rw[hlen]; exact w2) (by rw[hlen]; exact w3) λh' ps2 sb fL hm2 hl2=>?_)
   refine y6 ?_
   obtain⟨p0,hp0,Ua⟩:=first.2.2
   refine h true h' ps2 ((zB1 _ _ _).trans sb) fL (λp hp=>first.1 p ((hm2 p).mp hp)) (λp hp=>(hm2 p).mpr (first.2.1 p hp)) ⟨p0,(hm2 p0).mpr hp0,Ua⟩ (by omega)
end
open PySem.Spec
section
variable {prog:Program}{w:World}{K:Type}[DecidableEq K]{knd:KeyKind prog w K}{A:Around}{E:zzE}{s:Shared}
theorem g9 {h h':Heap}{ks:List K}{a:Addr}(x:IsTupleKey knd h ks a)(k:∀o,h.get? a=some o->h'.get? a=some o):IsTupleKey knd h' ks a:=by
 obtain⟨o,items,n,ho,r⟩:=x
 exact⟨o,items,n,k o ho,r⟩
theorem eO.ne {h:Heap}{S a:Addr}{ps:List (Addr × List K)}{ks:List K}(x:eO knd h S ps)(y:IsTupleKey knd h ks a):a≠S:=by
 rintro rfl
 obtain⟨o,_,_,ho,ex,_⟩:=x
 obtain⟨o',_,_,ho',hc,_⟩:=y
 rw[ho] at ho'
 cases ho'
 rw[ex.1] at hc
 exact absurd hc (by decide)
theorem eO.at_ {h h':Heap}{S:Addr}{ps:List (Addr × List K)}(x:eO knd h S ps)(k:∀o,h.get? S=some o->h'.get? S=some o):eO knd h' S ps:=by
 obtain⟨o,ep,t,ho,r⟩:=x
 exact⟨o,ep,t,k o ho,r⟩
noncomputable def Ay (xs:List (Addr × List K))(M:Nat):Prop:=∀l:List (List K),l.Nodup->(∀k∈l,∃p∈xs,p.2=k)->l.length<=M
theorem Ay.ps {xs ps:List (Addr × List K)}{M:Nat}(f:Ay xs M)(nd:(ps.map (·.2)).Nodup)(sub:∀p∈ps,p∈xs):ps.length<=M:=by
 have:=f _ nd λk hk=>by
  obtain⟨p,hp,rfl⟩:=x5.mp hk
  exact⟨p,sub p hp,rfl⟩
 rwa [y3] at this
variable {I:Addr}{fp wr:List Addr}{n:Nat}{P:Nat->Value->Prop}{St:Nat->Heap->Prop}{R:Result->Shared->Prop}
theorem LF (W:Walks prog w A.in1 I fp wr n P St)(S:Addr)(hSf:S∉fp){xs:List (Addr × List K)}(hn:xs.length=n)(hval:∀(i:Nat) (v:Value),P i v->∃p,xs[i]?=some p/\v=.ref p.1)(hw:∀p∈xs,p.1∉wr)
  (hb:tw knd) (hu:A.in1.units < cLine) (few:Ay xs 300) :
  ∀(k i:Nat) (s:Shared) (ps:List (Addr × List K)),n - i=k->i<=n->St i s.heap->eO knd s.heap S ps->(∀p∈xs,IsTupleKey knd s.heap p.2 p.1)->(∀p∈ps,p∈xs)->(∀p∈xs.take i,∃q∈ps,q.2=p.2)->
   (∀h' tk ps',(∀b o,b≠S->b∉wr->s.heap.get? b=some o->h'.get? b=some o)->eO knd h' S ps'->(∀p∈ps',p∈xs)->(∀p∈xs,∃q∈ps',q.2=p.2)->R (.ok (.ret .none)) { s with heap:=h',toks:=tk })->
   codeAny (model prog w) A (.builtin "set.update.loop" ⟨[.ref S,.ref I],[]⟩) R s:=by
 have FQ:S∉wr:=λh=>hSf (W.sub _ h)
 intro k
 induction k with
 | zero=>
  intro i s ps hk hi hst hS tups sub all hR
  obtain rfl:i=n:=by omega
  refine zDd PyProof.Rows.F.entry_set_update_loop ?_
  rw[zCu PyProof.Rows.F.plain_set_update_loop _]
  show wpAny _ A.in1 (pyNext (.ref I) >>= _) _ _ s
  refine yB (W.done s _ _ hst λh' tk hm=>?_)
  show wpAny _ A.in1 (ret Value.none) _ _ _
  refine y6 (hR h' tk ps (λb o _ hb e=>hm b o hb e) (hS.at_ λo e=>hm S o FQ e) sub ?_)
  rw[←hn,zBb] at all
  exact all
 | succ k ih=>
  intro i s ps hk hi hst hS tups sub all hR
  have hlt:i < n:=by omega
  refine zDd PyProof.Rows.F.entry_set_update_loop ?_
  rw[zCu PyProof.Rows.F.plain_set_update_loop _]
  show wpAny _ A.in1 (pyNext (.ref I) >>= _) _ _ s
  refine yB (W.item i s _ _ hlt hst λv h' tk hP Iu hm=>?_)
  obtain⟨p,hp,rfl⟩:=hval i v hP
  have hpx:p∈xs:=zAj hp
  have hS':eO knd h' S ps:=hS.at_ λo e=>hm S o FQ e
  have fG:∀q∈xs,IsTupleKey knd h' q.2 q.1:=λq hq=>g9 (tups q hq) λo e=>hm _ o (hw q hq) e
  show wpAny _ A.in1 (holding [Value.ref p.1] (setAdd S (.ref p.1)) >>= _) _ _ _
  refine yB (zBs ?_)
  unfold setAdd
  refine zBs ?_
  refine yB (wpAny_pyHash_tuple hu (fG p hpx) ?_)
  have Xl:ps.length<=300:=few.ps (let ⟨_,_,_,_,_,_,_,_,_,nd⟩:=hS; nd) sub
  refine add (s:={ s with heap:=h',toks:=tk+(p.2.length+1) }) hb hu hS' (λq hq=>fG q (sub q hq)) (fG p hpx) (by omega) λb h2 ps2 sb fL m1 m2 m3 hl=>?_
  have keep:∀b o,b≠S->h'.get? b=some o->h2.get? b=some o:=λb o hb e=>(sb.2 b hb).trans e
  refine y6 ⟨plainId_quiet PyProof.Rows.F.plain_set_update_loop _,ih (i+1) _ ps2 (by omega) hlt (W.frame _ _ _ Iu λb hb o e=>?_) fL (λq hq=>g9 (fG q hq) λo e=>keep _ o (hS'.ne (fG q hq)) e) (λq hq=>?_) (λq hq=>?_) λh3 M5 Ub kp q_ s3 a3=>?_⟩
  ·exact keep b o (λ(h:b=S)=>hSf (h ▸ hb)) e
  ·rcases m1 q hq with z | z
   ·exact sub q z
   ·rw[z]; exact hpx
  ·have htk:xs.take (i+1)=xs.take i++[p]:=by rw[zBv,hp]; rfl
   rw[htk] at hq
   rcases wT.mp hq with z | z
   ·obtain⟨q',hq',e⟩:=all q z
    exact⟨q',m2 q' hq',e⟩
   ·rw[w8.mp z]; exact m3
  ·exact hR h3 M5 Ub (λb o h1 h2' e=>kp b o h1 h2' (keep b o h1 (hm b o h2' e))) q_ s3 a3
end
section
variable {prog:Program}{w:World}{K:Type}[DecidableEq K]{knd:KeyKind prog w K}{A:Around}{E:zzE}{s:Shared}
theorem LG {h:Heap}{S:Addr}{led:Bool}(hl:led=!w.params.followText "set-order")(e:h.get? S=some { cls:=.type "set",dict:=none,data:=.set #[] 0 (.fresh 0 0 led) }):eO knd h S []:=by
 refine⟨_,0,.fresh 0 0 led,e,⟨rfl,rfl,rfl⟩,rfl,⟨⟨?_,rfl⟩,FI,rfl,?_,?_,?_⟩,⟨rfl,hl⟩,.inl ⟨rfl,by show 0 < 5; decide⟩,nodup_nil⟩
 ·intro a b _ hb
  exact absurd hb (by show ¬ b < 0; omega)
 ·intro j hj; cases hj
 ·exact zAw _
 ·intro x hx; cases hx
theorem LH (a:Value){Q:zzE}(h:Q (.ref s.heap.objs.size) { s with heap:=s.heap.push { cls:=.type "set",dict:=none,data:=.set #[] 0 (.fresh 0 0 (!w.params.followText "set-order")) } }) :
  codeAny (model prog w) A (.call (.builtin "set.__new__") ⟨[.type "set",a],[]⟩) (wants Q E) s:=by
 refine codeAny_of_tree ?_
 show wpAny _ A.in1 (checkBuiltinCall "set.__new__" ⟨[.type "set",a],[]⟩ >>= λ_=>again (.builtin "set.__new__" ⟨[.type "set",a],[]⟩)) _ _ s
 refine yB (wpAny_of_eq (F.newCall_set_1 a) (y6 ⟨plainId_quiet F.plain_set_new _,zDd F.entry_set_new ?_⟩))
 rw[zCu F.plain_set_new _]
 unfold Builtin.«set.__new__» Builtin.Frozenset.newClass
 have sub:=sub_set_self
 obtain⟨hp,g,d,tk,os⟩:=s
 dsimp only
 wp_walk
 refine wpAny_askSetting (y6 ?_)
 dsimp only
 simp only [newObj]
 exact yB (wpAny_alloc (y6 (y6 h)))
set_option maxHeartbeats 3200000 in
theorem Iv {l:Addr}{xs:List (Addr × List K)}{Q:zzE}(hh:A.handled=none)(hl:s.heap.IsList l (xs.map λp=>Value.ref p.1).toArray)(tups:∀p∈xs,IsTupleKey knd s.heap p.2 p.1)(hb:tw knd)(hu:A.units+8 < cLine)(few:Ay xs 300)
  (h:∀(h':Heap) (tk:Nat) (ps:List (Addr × List K)),eO knd h' s.heap.objs.size ps->(∀p∈ps,p∈xs)->(∀p∈xs,∃q∈ps,q.2=p.2)->(∀b o,s.heap.get? b=some o->h'.get? b=some o)->Q (.ref s.heap.objs.size) { s with heap:=h',toks:=tk }) :
  wpAny (model prog w) A (call (.type "set") [.ref l]) Q E s:=by
 have c1:=F.called_set.mro
 obtain⟨c,tl,Xm⟩:=c1
 have hmade:=F.called_set.made
 have hsub:=F.called_set.sub
 refine wpAny_call (codeAny_of_tree ?_)
 show wpAny _ _ (callAny (.type "set") _) _ _ _
 refine y6 ⟨Code.quiet_builtin _ (by decide +kernel),zDd F.entry_type_call ?_⟩
 rw[Around.under_plain (weight_type_call_type "set" [.ref l] []) rfl]
 have h1:=F.called_set.notType
 have h2:=F.called_set.canCreate
 have hct:=F.typeCall_set_1 (.ref l)
 repeat (any_goals (first | assumption | wp_step))
 refine codeAny_mono (LH (.ref l) (E:=E) (Q:=λobj s₁=>∃led:Bool,led=(!w.params.followText "set-order")/\obj=.ref s.heap.objs.size/\s₁={ s with heap:=s.heap.push { cls:=.type "set",dict:=none,data:=.set #[] 0 (.fresh 0 0 led) } }) ⟨_,rfl,rfl,rfl⟩) λr s₁ hr=>?_
 match r,hr with
 | .error e,hr=>exact hr
 | .ok (.ret obj),hr=>
  obtain⟨led,SM,rfl,rfl⟩:=hr
  generalize hso:({ cls:=.type "set",dict:=none,data:=.set #[] 0 (.fresh 0 0 led) }:Obj)=so at *
  have hS:(s.heap.push so).get? s.heap.objs.size=some so:=wE _ (by rw[←hso]; rfl)
  have hT:Shared.TypeIs { s with heap:=s.heap.push so } (.ref s.heap.objs.size) "set":=⟨_,hS,by rw[←hso]⟩
  have hli:=F.called_set.init.lookup
  have hbi:=F.called_set.init.bind (.ref s.heap.objs.size)
  repeat (any_goals (first | assumption | wp_step))
  refine codeAny_mono (codeAny_call_builtin (R:=wants (λr s₂=>r=.none/\∃h' tk,s₂={ s with heap:=h',toks:=tk }/\∃ps,eO knd h' s.heap.objs.size ps/\(∀p∈ps,p∈xs)/\(∀p∈xs,∃q∈ps,q.2=p.2)/\∀b o,s.heap.get? b=some o->h'.get? b=some o) E)
   F.called_set.init.plain F.entry_set_init (check_set_init_1 hT ?_)) λr₂ s₂ hr₂=>?_
  ·obtain⟨ol,hol,hcl,nl,hdl⟩:=hl
   obtain⟨Xn,Xf,Xg,Uc⟩:=ol
   simp only at hcl hdl
   subst hcl; subst hdl
   have SN:=y8 (h:=s.heap) so hol
   have Xo:=F.sub_list_set
   have Xp:=F.sub_list_frozenset
   have hne:(Value.type "list" == Value.type "dict")=false:=by decide
   have hl1:(s.heap.push so).IsList l (xs.map λp=>Value.ref p.1).toArray:=⟨_,SN,rfl,nl,rfl⟩
   subst hso
   unfold Builtin.«set.__init__» noKeywords Builtin.Frozenset.updateFrom
   generalize Ud:pyIter=PI
   wp_walk
   subst Ud
   generalize hso:({ cls:=.type "set",dict:=none,data:=.set #[] 0 (.fresh 0 0 led) }:Obj)=so at *
   refine wpAny_pyIter_list hl1 ?_
   refine yB (wpAny_runValue ?_)
   have hlS:l < s.heap.objs.size:=kA hol
   have sz:(s.heap.push so).objs.size=s.heap.objs.size+1:=zC6 ..
   have SO:l≠(s.heap.push so).objs.size:=by rw[sz]; exact zAn (zDh hlS)
   have hSf:s.heap.objs.size∉[(s.heap.push so).objs.size,l]:=by
    rw[sz]
    simp only [wS,zBr,zBz,not_or]
    exact⟨zAn (Nat.lt_succ_self _),zCr hlS⟩
   have Ue:∀p∈xs,p.1 < s.heap.objs.size:=λp hp=>let ⟨_,_,_,ho,_⟩:=tups p hp; kA ho
   have QA:=y8 (h:=s.heap.push so) { cls:=.type "list_iterator",data:=.fields #[.ref l,.int 0 0] } hS
   refine LF (knd:=knd) (Walks.list (by simp [hh]) _ l SO (xs.map λp=>Value.ref p.1).toArray) s.heap.objs.size hSf (xs:=xs) (by simp) (λi v hv=>?_) (λp hp=>?_) hb (by show A.in1.in1.in1.units < cLine; simp only [Around.in1]; omega) few _ 0 _ [] rfl (zAw _)
    ⟨⟨_,wE _ rfl,rfl,rfl⟩,hl1.push _⟩ (LG (led:=led) SM (by rw[hso]; exact QA)) (λp hp=>g9 (tups p hp) λo e=>y8 _ (y8 _ e)) (λp hp=>absurd hp (by simp)) (λp hp=>absurd hp (by simp)) λh' tk ps kp hS' m1 m2=>?_
   ·simp at hv
    obtain⟨a,⟨b,hp⟩,rfl⟩:=hv
    exact⟨(a,b),hp,rfl⟩
   ·rw[sz]
    have:=Ue p hp
    simp only [wS,zBr,zBz]
    exact zAn (zDh this)
   ·show wpAny _ _ _ _ _ _
    refine y6 ?_
    show wpAny _ _ (ret Value.none) _ _ _
    refine y6 ⟨rfl,h',tk,rfl,ps,hS',m1,m2,λb o e=>?_⟩
    have hb:=kA e
    refine kp b o (zAn hb) (by rw[sz]; simp only [wS,zBr,zBz]; exact zAn (zDh hb)) (y8 _ (y8 _ e))
  ·match r₂,hr₂ with
   | .error e,hr₂=>exact hr₂
   | .ok (.ret r),hr₂=>
    obtain⟨rfl,h',tk,rfl,ps,hS',m1,m2,kp⟩:=hr₂
    repeat (any_goals (first | assumption | wp_step))
    exact h _ _ ps hS' m1 m2 kp
end
namespace SF
theorem slot_next:Slot "set_iterator" "__next__" "set_iterator.__next__":=
 .of (owner:="set_iterator") (n:="__next__") (by rw[typeLookup_type,builtinLookup_eq_fast]; kernel_rfl) (by decide +kernel) (by decide +kernel) (by decide +kernel) (by first | exact .inl (by decide +kernel) | exact .inr (by decide +kernel)) (by rw[isSubtype_type]; kernel_rfl)
theorem entry_next:entryFor table "set_iterator.__next__"=some Builtin.«set_iterator.__next__»:=entryFor_of_fast (by kernel_rfl)
theorem args_next (a:Value):argsOk "set_iterator.__next__" ⟨[a],[]⟩:=by unfold argsOk; kernel_rfl
theorem Em:entryFor table "set.__iter__"=some Builtin.«frozenset.__iter__»:=entryFor_alias (id':="frozenset.__iter__") (by kernel_rfl) rfl (by decide +kernel) (by kernel_rfl)
end SF
theorem vJ {α:Type}:∀(l:List α) (i:Nat) (h:i < l.length),(l[i]::l.eraseIdx i).Perm l
 | x::xs,0,_=>List.Perm.refl _
 | x::xs,i+1,h=>(List.Perm.swap _ _ _).trans ((vJ xs i (by simpa using h)).cons x)
theorem ri {α:Type}(next:Nat->Nat):∀(fuel k:Nat) (left:List α) (out:Array α),left.length<=fuel->(pickOrder.go next fuel k left out).toList.Perm (out.toList++left)
 | 0,k,left,out,h=>by
  have:left=[]:=zCx.mp (by omega)
  subst this
  unfold pickOrder.go
  simp
 | fuel+1,k,[],out,h=>by
  unfold pickOrder.go
  simp
 | fuel+1,k,x::xs,out,h=>by
  have hlt:next k % (x::xs).length < (x::xs).length:=mod_lt _ (by simp)
  unfold pickOrder.go
  rw[xI hlt]
  refine (ri next fuel (k+1) _ _ (by rw[List.length_eraseIdx_of_lt hlt]; simp at h ⊢; omega)).trans ?_
  rw[zDi,zA4]
  exact List.Perm.append_left _ (vJ _ _ hlt)
theorem FU {α:Type}(next:Nat->Nat)(xs:Array α):(pickOrder next xs).toList.Perm xs.toList:=by
 have:=ri next xs.size 0 xs.toList #[] (by simp)
 show (pickOrder.go next xs.size 0 xs.toList #[]).toList.Perm xs.toList
 simpa using this
section
variable {prog:Program}{w:World}{K:Type}[DecidableEq K]{knd:KeyKind prog w K}{A:Around}{E:zzE}{s:Shared}
noncomputable def cS (w:World)(S:Addr)(ep:Nat)(es:Array (Int × Value)):Array (Int × Value):=if w.params.followText "set-order"=true then pickOrder (w.params.setOrder S ep) es else es
theorem yJ (w:World)(S:Addr)(ep:Nat)(es:Array (Int × Value)):(cS w S ep es).toList.Perm es.toList:=by
 unfold cS
 split
 ·exact FU _ _
 ·exact List.Perm.refl _
structure vL (w:World)(h:Heap)(I S:Addr)(t:SetTable)(n ep i:Nat):Prop where
 at_:∃slot:Nat,h.get? I=some { cls:=.type "set_iterator",dict:=none,data:=.fields #[rawInt slot,rawInt i,.ref S,rawInt n,rawInt ep],slots:=#[] }/\(w.params.followText "set-order"=false->SetTable.below t.place slot=i)
theorem vL.typeIs {I S:Addr}{t:SetTable}{n ep i:Nat}(x:vL w s.heap I S t n ep i):s.TypeIs (.ref I) "set_iterator":=by
 obtain⟨slot,e,_⟩:=x.at_
 exact⟨_,e,rfl⟩
variable {S I:Addr}{o:Obj}{es:Array (Int × Value)}{ep:Nat}{t:SetTable}
theorem Az {Q:Bool->Shared->Prop}(h:Q (w.params.followText "set-order") s):wpAny (model prog w) A setsByText Q E s:=by
 unfold setsByText
 exact yB (wpAny_askSetting (y6 h))
theorem C5 {slot i:Nat}{Q:Option (Value × Nat)->Shared->Prop}(ho:s.heap.get? S=some o)(hd:o.data=.set es ep t)(hf:t.fits es.size=true)(hr:uS t.place)(hp:t.plain=true)(hl:t.led=!w.params.followText "set-order")(hs:w.params.followText "set-order"=false->SetTable.below t.place slot=i)
  (h1:∀v,((cS w S ep es)[i]?).map (·.2)=some v->∀slot',(w.params.followText "set-order"=false->SetTable.below t.place slot'=i+1)->Q (some (v,slot')) s) (h2:(cS w S ep es)[i]?=none->Q none s):wpAny (model prog w) A (setNext S slot i ep) Q E s:=by
 have hsz:t.place.size=es.size:=by
  simp only [SetTable.fits,zBy,zDz] at hf
  exact hf.1
 unfold setNext
 refine yB (zBw ho hd hf ?_)
 dsimp only
 refine yB (Az ?_)
 cases c:w.params.followText "set-order" with
 | true=>
  have ord:cS w S ep es=pickOrder (w.params.setOrder S ep) es:=by unfold cS; rw[x4 c]
  rw[ord] at h1 h2
  simp only [zCt,bne_self_eq_false,zAi,zBa]
  unfold setWalk
  refine yB (yB (zBw ho hd hf ?_))
  dsimp only
  refine yB (Az ?_)
  rw[c,x4 rfl]
  refine yB (wpAny_askSetting (y6 ?_))
  refine y6 ?_
  show Q (((pickOrder (w.params.setOrder S ep) es)[i]?).map λe=>(e.2,slot)) s
  cases e:(pickOrder (w.params.setOrder S ep) es)[i]? with
  | none=>exact h2 e
  | some x=>exact h1 x.2 (by rw[e]; rfl) slot λz=>by rw[c] at z; cases z
 | false=>
  have ord:cS w S ep es=es:=by unfold cS; rw[c]; rfl
  rw[ord] at h1 h2
  have hl':t.led=true:=by rw[hl,c]; rfl
  have hb:=hs c
  simp only [zAi,zBa]
  show wpAny _ _ (if (!t.plain&&decide (es.size > 1))=true then _ else _) _ _ _
  rw[hp,xL (by simp)]
  show wpAny _ _ ((if (!t.led&&!es.isEmpty)=true then _ else _) >>= _) _ _ _
  rw[hl',xL (by simp)]
  refine yB (y6 ?_)
  refine y6 ?_
  rw[hb]
  cases e:es[i]? with
  | none=>exact h2 e
  | some x=>
   have hi:i < es.size:=by
    rcases zCq i es.size with q | q
    ·exact q
    ·rw[zBt q] at e; cases e
   have hi2:i < t.place.size:=by omega
   rw[kS hi2]
   refine h1 x.2 (by rw[e]; rfl) _ λ_=>?_
   obtain⟨b1,b2,b3⟩:=lY hr (t.place[i]+1)
   have gi:t.place.getD i 0=t.place[i]:=by simp [getD,hi2]
   rcases Nat.lt_trichotomy (SetTable.below t.place (t.place[i]+1)) (i+1) with q | q | q
   ·have:=b3 i (by omega) hi2
    rw[gi] at this; omega
   ·exact q
   ·have:=b2 (i+1) q
    have h3:=hr i (i+1) (by omega) (by omega)
    rw[gi] at h3; omega
end
namespace SF
theorem vM:Slot "set_iterator" "__iter__" "set_iterator.__iter__":=
 .of (owner:="set_iterator") (n:="__iter__") (by rw[typeLookup_type,builtinLookup_eq_fast]; kernel_rfl) (by decide +kernel) (by decide +kernel) (by decide +kernel) (by first | exact .inl (by decide +kernel) | exact .inr (by decide +kernel)) (by rw[isSubtype_type]; kernel_rfl)
theorem CJ:entryFor table "set_iterator.__iter__"=some Builtin.«dict_keyiterator.__iter__»:=entryFor_alias (id':="dict_keyiterator.__iter__") (by kernel_rfl) rfl (by decide +kernel) (by kernel_rfl)
theorem En (a:Value):argsOk "set_iterator.__iter__" ⟨[a],[]⟩:=by unfold argsOk; kernel_rfl
end SF
section
variable {prog:Program}{w:World}{K:Type}[DecidableEq K]{knd:KeyKind prog w K}{A:Around}{E:zzE}{s:Shared}
variable {S I:Addr}{o:Obj}{es:Array (Int × Value)}{ep:Nat}{t:SetTable}
structure Calm (w:World)(o:Obj)(es:Array (Int × Value))(ep:Nat)(t:SetTable):Prop where
 ex:o.ExactSet
 data:o.data=.set es ep t
 fits:t.fits es.size=true
 rise:uS t.place
 plain:t.plain=true
 led:t.led=!w.params.followText "set-order"
theorem rj (w:World)(S:Addr)(ep:Nat)(es:Array (Int × Value)):(cS w S ep es).size=es.size:=by
 have:=(yJ w S ep es).length_eq
 simpa using this
theorem walks (hh:A.handled=none)(I S:Addr)(hne:S≠I)(C:Calm w o es ep t) :
  Walks prog w A I [I,S] [I] es.size (λi v=>((cS w S ep es)[i]?).map (·.2)=some v) (λi h=>vL w h I S t es.size ep i/\h.get? S=some o) where
 sub:=λb hb=>by simp at hb; simp [hb]
 frame:=λi h h' st hk=>by
  obtain⟨⟨slot,e,z⟩,e2⟩:=st
  exact⟨⟨slot,hk I (by simp) _ e,z⟩,hk S (by simp) _ e2⟩
 item:=λi s Q E hi st hQ=>by
  obtain⟨it,ho⟩:=st
  obtain⟨slot,e,z⟩:=id it.at_
  unfold pyNext
  refine yB (zEc (zBo (name:=ofString "__next__") it.typeIs SF.slot_next (zBe SF.slot_next it.typeIs SF.entry_next ?_ (SF.args_next _))))
  refine yB (y6 ?_)
  refine yB (wpAny_fieldsOf e rfl ?_)
  show wpAny _ _ (setEntries S >>= _) _ _ _
  unfold setEntries
  refine yB (yB (zBw ho C.data C.fits (y6 ?_)))
  rw[xL (by simp)]
  show wpAny _ _ (setNext S slot i ep >>= _) _ _ _
  refine yB (C5 ho C.data C.fits C.rise C.plain C.led z (λv hv slot' z'=>?_) λno=>?_)
  ·dsimp only
   refine yB (zD1 e rfl (by show 0 < 5; decide) ?_)
   have e1:=zB4 (Obj.mapFields (·.setIfInBounds 0 (rawInt (slot':Nat)))) e rfl
   refine yB (zD1 e1 rfl (by show 1 < 5; decide) ?_)
   have e2:=zB4 (Obj.mapFields (·.setIfInBounds 1 (rawInt ((i:Int)+1)))) e1 rfl
   refine y6 ⟨_,rfl,?_⟩
   refine y6 (hQ v _ s.toks hv ⟨⟨slot',e2,z'⟩,?_⟩ λb o' hb e'=>?_)
   ·exact (zBg _ _ hne.symm).trans ((zBg _ _ hne.symm).trans ho)
   ·have:I≠b:=λz=>hb (by simp [z])
    exact (zBg _ _ this).trans ((zBg _ _ this).trans e')
  ·have:(cS w S ep es)[i]?≠none:=by
    rw[kS (by rw[rj]; exact hi)]
    simp
   exact absurd no this
 done:=λs Q E st hQ=>by
  obtain⟨it,ho⟩:=st
  obtain⟨slot,e,z⟩:=id it.at_
  unfold pyNext
  refine yB (zEc (zBo (name:=ofString "__next__") it.typeIs SF.slot_next (zBe SF.slot_next it.typeIs SF.entry_next ?_ (SF.args_next _))))
  refine yB (y6 ?_)
  refine yB (wpAny_fieldsOf e rfl ?_)
  show wpAny _ _ (setEntries S >>= _) _ _ _
  unfold setEntries
  refine yB (yB (zBw ho C.data C.fits (y6 ?_)))
  rw[xL (by simp)]
  show wpAny _ _ (setNext S slot es.size ep >>= _) _ _ _
  refine yB (C5 ho C.data C.fits C.rise C.plain C.led z (λv hv slot' z'=>?_) λno=>?_)
  ·rw[zBt (by rw[rj]; exact x3 _)] at hv
   cases hv
  ·dsimp only
   refine yB (zD1 e rfl (by show 2 < 5; decide) ?_)
   refine yB ?_
   simp only [newExc,newTuple]
   refine yB (zBl ?_ (by size_fits))
   refine yB (m:=firstArgMember _ _) (wpAny_of_eq (a:=Value.none) (by first | rfl | (simp only [firstArgMember]; rfl)) ?_)
   refine zBl ?_ (by size_fits)
   simp only [raiseNew]
   refine yB (wpAny_handled ?_)
   rw[show A.in1.handled=none from hh]
   refine yB (y6 (wpAny_throw ?_))
   refine yB (zD5 (T:="StopIteration") (b:=true) ⟨_,wE _ rfl,rfl⟩ isSubtype_stop ?_)
   refine y6 (hQ _ s.toks λb o' hb e'=>?_)
   have:I≠b:=λz=>hb (by simp [z])
   exact y8 _ (y8 _ ((zBg _ _ this).trans e'))
 self:=λi s Q E st hQ=>by
  have hT:=st.1.typeIs (s:=s)
  refine wpAny_pyIter_slot hT SF.vM (zBe SF.vM hT SF.CJ ?_ (SF.En _))
  exact y6 ⟨_,rfl,"set_iterator",_,hT,SF.slot_next.lookup,hQ⟩
end
section
variable {prog:Program}{w:World}{K:Type}[DecidableEq K]{knd:KeyKind prog w K}{A:Around}{E:zzE}{s:Shared}
variable {S:Addr}{o:Obj}{es:Array (Int × Value)}{ep:Nat}{t:SetTable}
theorem Iw {Q:zzE}(ho:s.heap.get? S=some o)(C:Calm w o es ep t)
  (h:∀h',h'=s.heap.push { cls:=.type "set_iterator",dict:=none,data:=.fields #[rawInt (0:Nat),rawInt (0:Nat),.ref S,rawInt es.size,rawInt ep],slots:=#[] }->Q (.ref s.heap.objs.size) { s with heap:=h' }):wpAny (model prog w) A (pyIter (.ref S)) Q E s:=by
 have hT:s.TypeIs (.ref S) "set":=⟨o,ho,C.ex.1⟩
 refine wpAny_pyIter_slot hT F.slot_set_iter (zBe F.slot_set_iter hT SF.Em ?_ (F.args_set_iter_1 _))
 show wpAny _ _ (Builtin.Frozenset.slot0 "__iter__" ⟨[.ref S],[]⟩ >>= _) _ _ _
 refine yB (yB (y6 (y6 ?_)))
 unfold Builtin.Frozenset.sizeOf setEntries
 refine yB (yB (yB (zBw ho C.data C.fits (y6 (y6 ?_)))))
 refine yB ?_
 unfold setDrawn
 refine yB (zBw ho C.data C.fits ?_)
 dsimp only
 refine yB (Az ?_)
 refine y6 ?_
 show wpAny _ _ (if (!w.params.followText "set-order"&&(!t.plain&&decide (es.size > 1)))=true then _ else _) _ _ _
 rw[C.plain,xL (by simp)]
 refine yB (y6 ?_)
 unfold setEpoch
 refine yB (yB (zBw ho C.data C.fits (y6 ?_)))
 refine yB (zBl ?_ (by size_fits))
 refine y6 ⟨_,rfl,"set_iterator",_,⟨_,wE _ rfl,rfl⟩,SF.slot_next.lookup,h _ rfl⟩
theorem Iz {Q:Bool->Shared->Prop}(ho:s.heap.get? S=some o)(C:Calm w o es ep t)(h:Q false s):wpAny (model prog w) A (Builtin.List.listLengthHint (.ref S)) Q E s:=by
 have hT:s.TypeIs (.ref S) "set":=⟨o,ho,C.ex.1⟩
 unfold Builtin.List.listLengthHint
 refine yB (zEd hT F.slot_set_len.lookup ?_)
 have sp:splitId "set.__len__"=some ("set","__len__"):=by decide +kernel
 dsimp only
 rw[sp]
 dsimp only
 refine yB (zD5 hT sub_set_self ?_)
 simp only [zDw,zAi,zBa]
 rw[x4 (by decide +kernel)]
 refine yB (zD3 hT ?_)
 exact y6 h
set_option maxHeartbeats 4000000 in
theorem CK {Q:List Value->Shared->Prop}(hh:A.handled=none)(ho:s.heap.get? S=some o)(C:Calm w o es ep t)(hz:es.size<=sizeLine)
  (h:∀h' tk vs,(∀b o,s.heap.get? b=some o->h'.get? b=some o)->s.heap.objs.size<=h'.objs.size->vs=(cS w S ep es).toList.map (·.2)->Q vs { s with heap:=h',toks:=tk }):wpAny (model prog w) A (collect (.ref S)) Q E s:=by
 have xE:S < s.heap.objs.size:=kA ho
 unfold collect
 refine yB (wpAny_runValue (zDd F.entry_proto_collect ?_))
 rw[zCu F.plain_proto_collect _]
 show wpAny _ A.in1 (newList [] >>= λl=>again (.builtin "list.__iadd__" ⟨[l,.ref S],[]⟩)) _ _ s
 refine yB (zBl ?_)
 refine y6 ⟨plainId_quiet F.plain_list_iadd _,zDd F.entry_list_iadd ?_⟩
 rw[zCu F.plain_list_iadd _]
 show wpAny _ A.in1 (Builtin.List.listExtendWith (.ref s.heap.objs.size) (.ref S) (.ref s.heap.objs.size)) _ _ _
 generalize hlo:({ cls:=.type "list",data:=.seq ([]:List Value).toArray }:Obj)=lo
 have hL:(s.heap.push lo).get? s.heap.objs.size=some lo:=wE _ (by rw[←hlo]; rfl)
 have hS1:(s.heap.push lo).get? S=some o:=y8 _ ho
 unfold Builtin.List.listExtendWith
 refine yB (zD3 (T:="set") ⟨o,hS1,C.ex.1⟩ ?_)
 have h1:Builtin.List.listSameRef (.ref s.heap.objs.size) (.ref S)=false:=by
  simp only [Builtin.List.listSameRef]
  exact beq_false_of_ne (zCr xE)
 have h2:(Value.type "set" == Value.type "list")=false:=by decide
 have h3:(Value.type "set" == Value.type "tuple")=false:=by decide
 simp only [h1,h2,h3,Bool.or_false,zAi,zBa]
 refine yB (Iw (s:={ s with heap:=s.heap.push lo }) hS1 C λh' e=>?_)
 subst e
 have sz:(s.heap.push lo).objs.size=s.heap.objs.size+1:=zC6 ..
 generalize hio:({ cls:=.type "set_iterator",dict:=none,data:=.fields #[rawInt (0:Nat),rawInt (0:Nat),.ref S,rawInt es.size,rawInt ep],slots:=#[] }:Obj)=io
 have fL:((s.heap.push lo).push io).get? S=some o:=y8 _ hS1
 have J3:((s.heap.push lo).push io).get? s.heap.objs.size=some lo:=y8 _ hL
 have M6:((s.heap.push lo).push io).get? (s.heap.push lo).objs.size=some io:=wE _ (by rw[←hio]; rfl)
 refine yB (zBs (Iz (s:={ s with heap:=(s.heap.push lo).push io }) fL C ?_))
 rw[x4 (by decide +kernel)]
 refine yB (zCo ?_)
 refine yB ?_
 have Xz:lo.data=.seq #[] 0:=by rw[←hlo]
 show wpAny _ A.in1 (updateSeq s.heap.objs.size (·.push .none) >>= λ_=>updateSeq s.heap.objs.size (·.pop)) _ _ _
 subst hlo
 refine yB (wpAny_updateSeq J3 rfl ?_)
 have M7:=zB4 (mapSeq (·.push Value.none)) J3 rfl
 refine wpAny_updateSeq M7 rfl ?_
 have Rp:=zB4 (mapSeq (·.pop)) M7 rfl
 have Rq:(s.heap.push { cls:=.type "list",data:=.seq ([]:List Value).toArray }).objs.size≠s.heap.objs.size:=by rw[sz]; exact zCr (Nat.lt_succ_self _)
 have J5:∀(h:Heap) b o,b≠s.heap.objs.size->h.get? b=some o->((h.update s.heap.objs.size (mapSeq (·.push Value.none))).update s.heap.objs.size (mapSeq (·.pop))).get? b=some o:=λh b o hb e=>(zBg _ _ (Ne.symm hb)).trans ((zBg _ _ (Ne.symm hb)).trans e)
 have QB:S≠(s.heap.push { cls:=.type "list",data:=.seq ([]:List Value).toArray }).objs.size:=by rw[sz]; exact zAn (zDh xE)
 have W:=walks (prog:=prog) (A:=A.in1) (by simp [hh]) (s.heap.push { cls:=.type "list",data:=.seq ([]:List Value).toArray }).objs.size S QB C
 have Ug:=J5 _ _ _ Rq M6
 have hS4:=J5 _ _ _ (zAn xE) fL
 have keep4:∀b o',s.heap.get? b=some o'->((((s.heap.push { cls:=.type "list",data:=.seq ([]:List Value).toArray }).push io).update s.heap.objs.size (mapSeq (·.push Value.none))).update s.heap.objs.size (mapSeq (·.pop))).get? b=some o':=λb o' e=>J5 _ _ _ (zAn (kA e)) (y8 _ (y8 _ e))
 have M8:∃c,((((s.heap.push { cls:=.type "list",data:=.seq ([]:List Value).toArray }).push io).update s.heap.objs.size (mapSeq (·.push Value.none))).update s.heap.objs.size (mapSeq (·.pop))).get? s.heap.objs.size=some { cls:=.type "list",dict:=none,data:=.seq #[] c,slots:=#[] }:=⟨_,Rp⟩
 clear Rp M7 J5
 show wpAny (model prog w) A.in1 (again (.builtin "list.extend.loop" ⟨[.ref s.heap.objs.size,.ref (s.heap.push { cls:=.type "list",data:=.seq ([]:List Value).toArray }).objs.size,.ref s.heap.objs.size],[]⟩)) _ _ { s with heap:=(((s.heap.push { cls:=.type "list",data:=.seq ([]:List Value).toArray }).push io).update s.heap.objs.size (mapSeq (·.push Value.none))).update s.heap.objs.size (mapSeq (·.pop)) }
 generalize ((((s.heap.push { cls:=.type "list",data:=.seq ([]:List Value).toArray }).push io).update s.heap.objs.size (mapSeq (·.push Value.none))).update s.heap.objs.size (mapSeq (·.pop)))=h4 at *
 generalize (s.heap.push { cls:=.type "list",data:=.seq ([]:List Value).toArray }).objs.size=I at *
 obtain⟨c5,M8⟩:=M8
 subst hio
 have hb0:SetTable.below t.place 0=0:=by
  obtain⟨b1,b2,b3⟩:=lY C.rise 0
  rcases Nat.eq_zero_or_pos (SetTable.below t.place 0) with q | q
  ·exact q
  ·have:=b2 0 q
   omega
 have Uh:(λi (s:Shared)=>vL w s.heap I S t es.size ep i/\s.heap.get? S=some o) 0 { s with heap:=h4 }:=⟨⟨0,Ug,λ_=>hb0⟩,hS4⟩
 refine y6 ⟨plainId_quiet F.plain_extend_loop _,codeAny_extend_loopS W.toS hz s.heap.objs.size ?_ _ es.size 0 { s with heap:=h4 } #[] c5 rfl (zAw _) Uh M8 (ItemsOf.nil _) λs' acc' c' hm hS' hacc=>?_⟩
 ·simp only [wS,zBr,zBz,not_or]
  exact⟨Rq.symm,zCr xE⟩
 ·show wpAny _ A (load s.heap.objs.size >>= _) _ _ s'
  refine yB (wpAny_load hS' ?_)
  obtain⟨h',g',d',tk',os'⟩:=s'
  have eg:g'=s.gens:=hm.gens
  have ed:d'=s.drawn:=hm.drawn
  have eo:os'=s.os:=hm.os
  subst eg; subst ed; subst eo
  have keep:∀b o',s.heap.get? b=some o'->h'.get? b=some o':=λb o' e=>by
   have hb:=kA e
   refine hm.heap b o' ?_ (keep4 b o' e)
   simp only [wS,zBr,zBz,not_or]
   exact⟨zAn hb,by rw[sz]; exact zAn (zDh hb)⟩
  refine y6 (h h' tk' _ keep (le_of_lt (kA hS')) (List.ext_getElem? λj=>?_))
  rw[zAc,wP,zAc]
  have Ui:=rj w S ep es
  rcases zCq j es.size with q | q
  ·have hj:j < acc'.size:=by rw[hacc.1]; exact q
   have:=hacc.2 j acc'[j] (kS hj)
   rw[kS hj]
   exact this.symm
  ·rw[zBt (by rw[hacc.1]; exact q),zBt (by rw[Ui]; exact q)]
   rfl
end
end TB
namespace L2
open PySem PySem.Spec PyProof.Rows
abbrev Key:=Sum Int Str
noncomputable def J6:Key->Value->Bool
 | .inl k,v=>Value.isInt k v
 | .inr x,v=>Value.isStrOf x v
noncomputable def SQ (w:World):Key->Int
 | .inl k=>hashInt k
 | .inr x=>hashStr w x
theorem dc:∀{k:Key} {v:Value},J6 k v=true->(∃i t,k=Sum.inl i/\v=Value.int i t)\/(∃x t,k=Sum.inr x/\v=Value.str x t)
 | .inl i,v,h=>by
  obtain⟨t,e⟩:=Value.isInt_shape (k:=i) (v:=v) h
  exact .inl ⟨i,t,rfl,e⟩
 | .inr x,v,h=>by
  obtain⟨t,e⟩:=Value.isStrOf_shape (x:=x) (v:=v) h
  exact .inr ⟨x,t,rfl,e⟩
theorem M9 (a b:Int):decide ((Sum.inl a:Key)=Sum.inl b)=(a == b):=by
 by_cases e:a=b
 ·subst e; simp
 ·have h:¬ (Sum.inl a:Key)=Sum.inl b:=λq=>e (Sum.inl.inj q)
  rw[zAv h]
  exact (zD9.mpr e).symm
theorem M_ (a b:Str):decide ((Sum.inr a:Key)=Sum.inr b)=decide (a=b):=by
 by_cases e:a=b
 ·subst e; simp
 ·have h:¬ (Sum.inr a:Key)=Sum.inr b:=λq=>e (Sum.inr.inj q)
  rw[zAv h,zAv e]
theorem Na (a:Int)(b:Str):decide ((Sum.inl a:Key)=Sum.inr b)=false:=zAv (λq=>nomatch q)
theorem Nb (a:Str)(b:Int):decide ((Sum.inr a:Key)=Sum.inl b)=false:=zAv (λq=>nomatch q)
noncomputable def xF (prog:Program)(w:World):PySem.KeyKind prog w Key where
 is:=J6
 hash:=SQ w
 inj:=λv a b ha hb=>by
  rcases dc ha with ⟨i,t,rfl,rfl⟩ | ⟨x,t,rfl,rfl⟩
  ·rcases dc hb with ⟨j,u,rfl,e⟩ | ⟨y,u,rfl,e⟩
   ·injection e with e1 _; rw[e1]
   ·exact nomatch e
  ·rcases dc hb with ⟨j,u,rfl,e⟩ | ⟨y,u,rfl,e⟩
   ·exact nomatch e
   ·injection e with e1 _; rw[e1]
 byValue:=λk v h=>by
  rcases dc h with ⟨i,t,rfl,rfl⟩ | ⟨x,t,rfl,rfl⟩ <;> rfl
 pyHash:=λhv h=>by
  rcases dc hv with ⟨i,t,rfl,rfl⟩ | ⟨x,t,rfl,rfl⟩
  ·exact wpAny_pyHash_int h
  ·exact wpAny_pyHash_str h
 eqBool:=λhu hv h=>by
  rcases dc hu with ⟨i,t,rfl,rfl⟩ | ⟨x,t,rfl,rfl⟩
  ·rcases dc hv with ⟨j,u,rfl,rfl⟩ | ⟨y,u,rfl,rfl⟩
   ·rw[M9] at h; exact wpAny_eqBool_int h
   ·rw[Na] at h; exact SeqAt.EqAt.int_str i t y u _ _ _ _ h
  ·rcases dc hv with ⟨j,u,rfl,rfl⟩ | ⟨y,u,rfl,rfl⟩
   ·rw[Nb] at h; exact SeqAt.EqAt.str_int x t j u _ _ _ _ h
   ·rw[M_] at h; exact wpAny_eqBool_str h
 «strs»:=λk x t v h=>by
  rcases dc h with ⟨i,u,rfl,e⟩ | ⟨y,u,rfl,e⟩
  ·exact nomatch e
  ·injection e with e1 _
   subst e1
   cases v <;> rfl
inductive V where
 | bq | bl (b:Bool) | int (i:Int) | str (x:Str) | mY (b:Array UInt8) | Nc (b:UInt64) | ref (a:Addr) | ty (n:String)
 deriving DecidableEq
noncomputable def RelV:V->Value->Prop
 | .bq,u=>u=Value.none
 | .bl b,u=>u=Value.bool b
 | .int i,u=>∃t,u=Value.int i t
 | .str x,u=>∃t,u=Value.str x t
 | .mY b,u=>∃t,u=Value.bytes b t
 | .Nc b,u=>∃t,u=Value.float b t
 | .ref a,u=>u=Value.ref a
 | .ty n,u=>u=Value.type n
abbrev Vals:List V->List Value->Prop:=Paired RelV
theorem Vals.length {xs:List V}{us:List Value}(r:Vals xs us):xs.length=us.length:=Paired.length r
theorem Vals.get:∀{xs:List V} {us:List Value} {i:Nat} {x:V},Vals xs us->xs[i]?=some x->∃u,us[i]?=some u/\RelV x u
 | _,_,_,_,.nil,e=>by simp at e
 | _,_,0,_,.cons r _,e=>by simp at e; subst e; exact⟨_,rfl,r⟩
 | _,_,i+1,x,.cons _ t,e=>by
  obtain⟨u,h1,h2⟩:=Vals.get (i:=i) (x:=x) t (by simpa using e)
  exact⟨u,by simpa using h1,h2⟩
theorem Vals.set {x:V}{u:Value}(r:RelV x u):∀{xs:List V} {us:List Value} (i:Nat),Vals xs us->Vals (xs.set i x) (us.set i u)
 | _,_,_,.nil=>.nil
 | _,_,0,.cons _ t=>.cons r t
 | _,_,i+1,.cons q t=>.cons q (Vals.set r i t)
theorem Vals.append:∀{xs ys:List V} {us ws:List Value},Vals xs us->Vals ys ws->Vals (xs++ys) (us++ws)
 | _,_,_,_,.nil,s=>s
 | _,_,_,_,.cons r t,s=>.cons r (Vals.append t s)
theorem Vals.take:∀{xs:List V} {us:List Value} (n:Nat),Vals xs us->Vals (xs.take n) (us.take n)
 | _,_,0,_=>.nil
 | _,_,_+1,.nil=>.nil
 | _,_,n+1,.cons r t=>.cons r (Vals.take n t)
theorem Vals.drop:∀{xs:List V} {us:List Value} (n:Nat),Vals xs us->Vals (xs.drop n) (us.drop n)
 | _,_,0,r=>r
 | _,_,_+1,.nil=>.nil
 | _,_,n+1,.cons _ t=>Vals.drop n t
noncomputable def mZ:Option V->Option Value->Prop
 | some v,some u=>RelV v u
 | none,none=>True
 | _,_=>False
noncomputable def KV {κ:Type}:List (κ × V)->List (κ × Value)->Prop:=Paired λ(p:κ × V) (q:κ × Value)=>p.1=q.1/\RelV p.2 q.2
noncomputable def kV:Key->V
 | .inl i=>.int i
 | .inr x=>.str x
inductive HO where
 | lst (xs:List V)
 | tup (xs:List V)
 | dK (kvs:List (Key × V)) | dT (kvs:List (List Key × V))
 | set (S:Int->Bool) (n:Nat)
 | ins (C dx:Addr) (fs:List (Str × V))
 | own (x:Addr)
 | xd (fs:List (Str × V))
 | met (f x:Addr)
 | J7 (lo hi:Int)
 | rm (o:Obj) (u:HO)
 | yL (ps:Array Value)
 | ext (φ:Heap->Prop)
abbrev Hp:=Addr->Option HO
noncomputable def upd (H:Hp)(a:Addr)(o:HO):Hp:=λb=>if b=a then some o else H b
theorem aA {H:Hp}{a:Addr}{o:HO}:upd H a o a=some o:=by unfold upd; rw[x4 rfl]
theorem aT {H:Hp}{a b:Addr}{o:HO}(h:b≠a):upd H a o b=H b:=by unfold upd; rw[xL h]
theorem bX {H:Hp}{a b:Addr}{o:HO}(h:H a=some o)(h':H b=none):a≠b:=by
 intro e; subst e; rw[h] at h'; cases h'
section
variable (P:Program)(w:World)
noncomputable def bR (H:Hp)(h:Heap)(a:Addr):HO->Prop
 | .lst xs=>xs.length<=sizeLine/\∃(its:List Value) (n:Nat),Vals xs its/\h.get? a=some { cls:=.type "list",data:=.seq its.toArray n }
 | .tup xs=>xs.length<=sizeLine/\∃its:List Value,Vals xs its/\IsTup h a its.toArray
 | .dK kvs=>kvs.length<=sizeLine/\(a == sysModules)=false/\∃vs,KV kvs vs/\h.DictOf (xF P w) a vs
 | .dT kvs=>kvs.length<=sizeLine/\(a == sysModules)=false/\∃xs:List (List Key × Addr × Value),
   Paired (λ(p:List Key × V) (q:List Key × Addr × Value)=>p.1=q.1/\H q.2.1=some (.tup (p.1.map kV))/\RelV p.2 q.2.2) kvs xs/\
   ∃o es ep,h.get? a=some o/\o.ExactDict/\o.data=.dict es ep/\es.toList=xs.map (entryOfKey (tupleKind (xF P w)))/\(xs.map (·.1)).Nodup
 | .set S n=>h.SetOf (intKind P w) a S n
 | .ins C dx fs=>H dx=some (.own a)/\fs.length<=1000/\dx≠a/\h.get? a=some (PySem.W.instObj C dx)/\
   ∃mA,h.Ns1 dx mA/\(∀f,mZ (fs.lookup f) (mA f))/\PySem.Within mA (fs.map (·.1))
 | .own _=>∃o,h.get? a=some o
 | .xd fs=>∃mA,h.Ns1 a mA/\∀f,mZ (fs.lookup f) (mA f)
 | .J7 lo hi=>∃t u v,h.get? a=some { cls:=.type "range",data:=.fields #[.int lo t,.int hi u,.int 1 v] }
 | .rm o u=>h.get? a=some o/\bR H h a u
 | .yL ps=>h.get? a=some { cls:=.none,data:=.fields ps }
 | .met f x=>h.get? a=some (PySem.W.methodObj (.ref f) (.ref x))
 | .ext φ=>φ h/\(∃o,h.get? a=some o)/\∀h1 h2:Heap,φ h1->(∀o,h1.get? a=some o->h2.get? a=some o)->φ h2
noncomputable def g_ (H:Hp)(h:Heap):Prop:=∀a o,H a=some o->bR P w H h a o
end
section
variable {P:Program}{w:World}{H H':Hp}{h h':Heap}{a:Addr}{o:HO}
theorem bR.lt (x:bR P w H h a o):a < h.objs.size:=by
 cases o with
 | lst xs=>obtain⟨_,_,_,_,e⟩:=x; exact kA e
 | tup xs=>obtain⟨_,_,_,p⟩:=x; exact p.lt
 | dK kvs=>obtain⟨_,_,_,_,o,_,_,e,_⟩:=x; exact kA e
 | dT kvs=>obtain⟨_,_,_,_,o,_,_,e,_⟩:=x; exact kA e
 | set S n=>obtain⟨o,_,_,_,e,_⟩:=x; exact kA e
 | ins C dx fs=>obtain⟨_,_,_,e,_⟩:=x; exact kA e
 | own y=>obtain⟨_,e⟩:=x; exact kA e
 | xd fs=>obtain⟨_,⟨_,_,_,e,_⟩,_⟩:=x; exact kA e
 | J7 lo hi=>obtain⟨_,_,_,e⟩:=x; exact kA e
 | rm ob u=>obtain⟨e,_⟩:=x; exact kA e
 | yL ps=>exact kA (show h.get? a=some _ from x)
 | met f y=>exact kA (show h.get? a=some _ from x)
 | ext φ=>obtain⟨_,⟨_,e⟩,_⟩:=x; exact kA e
theorem Paired.Nd {α β:Type}{F G:α->β->Prop}:∀{l₁:List α} {l₂:List β},Paired F l₁ l₂->(∀a b,F a b->G a b)->Paired G l₁ l₂
 | _,_,.nil,_=>.nil
 | _,_,.cons r t,f=>.cons (f _ _ r) (Paired.Nd t f)
theorem bR.stay (x:bR P w H h a o)(k:∀b u,(b=a\/H b=some (.own a))->h.get? b=some u->h'.get? b=some u)
  (ho:∀b,H b=some (.own a)->H' b=some (.own a)) (ht:∀b xs,H b=some (.tup xs)->H' b=some (.tup xs)):bR P w H' h' a o:=by
 induction o with
 | lst xs=>obtain⟨z,its,n,r,e⟩:=x; exact⟨z,its,n,r,k _ _ (.inl rfl) e⟩
 | tup xs=>obtain⟨z,its,r,ob,e,c⟩:=x; exact⟨z,its,r,ob,k _ _ (.inl rfl) e,c⟩
 | dK kvs=>obtain⟨z,y,vs,r,ob,es,ep,e,c⟩:=x; exact⟨z,y,vs,r,ob,es,ep,k _ _ (.inl rfl) e,c⟩
 | dT kvs=>
  obtain⟨z,y,xs,r,ob,es,ep,e,c⟩:=x
  exact⟨z,y,xs,Paired.Nd r λp q z=>⟨z.1,ht _ _ z.2.1,z.2.2⟩,ob,es,ep,k _ _ (.inl rfl) e,c⟩
 | set S n=>obtain⟨ob,es,ep,t,e,c⟩:=x; exact⟨ob,es,ep,t,k _ _ (.inl rfl) e,c⟩
 | ins C dx fs=>
  obtain⟨d,z,ne,e,mA,⟨od,es,ep,e2,c⟩,r⟩:=x
  exact⟨ho _ d,z,ne,k _ _ (.inl rfl) e,mA,⟨od,es,ep,k _ _ (.inr d) e2,c⟩,r⟩
 | own y=>obtain⟨ob,e⟩:=x; exact⟨ob,k _ _ (.inl rfl) e⟩
 | xd fs=>obtain⟨mA,⟨od,es,ep,e,c⟩,r⟩:=x; exact⟨mA,⟨od,es,ep,k _ _ (.inl rfl) e,c⟩,r⟩
 | J7 lo hi=>obtain⟨t,u,v,e⟩:=x; exact⟨t,u,v,k _ _ (.inl rfl) e⟩
 | rm ob u ih=>obtain⟨e,q⟩:=x; exact⟨k _ _ (.inl rfl) e,ih q⟩
 | yL ps=>
  have e:h.get? a=some { cls:=.none,data:=.fields ps }:=x
  show h'.get? a=some { cls:=.none,data:=.fields ps }
  exact k a _ (.inl rfl) e
 | met f y=>
  have e:h.get? a=some (PySem.W.methodObj (.ref f) (.ref y)):=x
  show h'.get? a=some (PySem.W.methodObj (.ref f) (.ref y))
  exact k a _ (.inl rfl) e
 | ext φ=>obtain⟨p,⟨o,e⟩,st⟩:=x; exact⟨st _ _ p λo q=>k _ _ (.inl rfl) q,⟨o,k _ _ (.inl rfl) e⟩,st⟩
theorem g_.lt (x:g_ P w H h)(e:H a=some o):a < h.objs.size:=(x a o e).lt
theorem g_.fresh (x:g_ P w H h)(e:h.objs.size<=a):H a=none:=by
 cases q:H a with
 | none=>rfl
 | some u=>exact absurd (zAx (x.lt q) e) (zB6 _)
theorem g_.kept (x:g_ P w H h)(k:∀b u,h.get? b=some u->h'.get? b=some u):g_ P w H h':=λa o e=>
 (x a o e).stay (λb u _ q=>k b u q) (λ_ q=>q) λ_ _ q=>q
theorem g_.laid (x:g_ P w H h)(k:∀b u,h.get? b=some u->h'.get? b=some u)(hp:h.objs.size<=a)(new:bR P w (upd H a o) h' a o):g_ P w (upd H a o) h':=λb u e=>by
 have hn:=x.fresh hp
 by_cases hb:b=a
 ·subst hb; rw[aA] at e; cases e; exact new
 ·rw[aT hb] at e
  exact (x b u e).stay (λc v _ q=>k c v q) (λc q=>by rw[aT (bX q hn)]; exact q) λc xs q=>by rw[aT (bX q hn)]; exact q
end
noncomputable def Rd (H:Hp)(a:Addr)(u:HO):Prop:=H a=some u\/∃o,H a=some (.rm o u)
theorem Rd.ok {P:Program}{w:World}{H:Hp}{h:Heap}{a:Addr}{u:HO}(r:Rd H a u)(x:g_ P w H h):bR P w H h a u:=by
 rcases r with r | ⟨o,r⟩
 ·exact x a u r
 ·obtain⟨_,q⟩:=x a _ r
  exact q
noncomputable def uq:Option HO->Prop
 | some (.lst _)=>True
 | some (.dK _)=>True
 | some (.dT _)=>True
 | some (.set _ _)=>True
 | some (.ins _ _ _)=>True
 | some (.ext _)=>True
 | _=>False
section
variable {P:Program}{w:World}{H:Hp}{h h':Heap}{x e:Addr}{o':HO}
theorem g_.write (ok:g_ P w H h)(mu:uq (H x))(he:e=x\/H e=some (.own x))(k:∀b u,b≠e->h.get? b=some u->h'.get? b=some u)(heo:∃u,h'.get? e=some u)
  (new:bR P w (upd H x o') h' x o'):g_ P w (upd H x o') h':=λb u q=>by
 have nown:∀c y,H c=some (.own y)->c≠x:=λc y r z=>by subst z; rw[r] at mu; exact mu
 have ntup:∀c xs,H c=some (.tup xs)->c≠x:=λc xs r z=>by subst z; rw[r] at mu; exact mu
 by_cases hb:b=x
 ·subst hb; rw[aA] at q; cases q; exact new
 ·rw[aT hb] at q
  by_cases hbe:b=e
  ·have q':H b=some (.own x):=by
    rcases he with z | z
    ·exact absurd (hbe.trans z) hb
    ·rw[hbe]; exact z
   rw[q] at q'; cases q'
   obtain⟨v,hv⟩:=heo
   exact⟨v,by rw[hbe]; exact hv⟩
  ·refine (ok b u q).stay (λc v hc r=>k c v ?_ r) (λc r=>by rw[aT (nown c b r)]; exact r) λc xs r=>by rw[aT (ntup c xs r)]; exact r
   rcases hc with rfl | hc
   ·exact hbe
   ·rintro rfl
    rcases he with z | z
    ·exact nown c b hc z
    ·rw[hc] at z; cases z; exact hb rfl
end
structure Un (fs ex:List Addr)(H H':Hp)(h h':Heap):Prop where
 keep:∀b o,h.get? b=some o->H b=none->b∉fs->b∉ex->h'.get? b=some o
 slot:∀b o,h.get? b=some o->H b=none->b∈fs->b∉ex->∃sl,h'.get? b=some { o with slots:=sl }
 free:∀b o,h.get? b=some o->H b=none->b∉ex->H' b=none
 there:∀b o,h.get? b=some o->b∉ex->∃o',h'.get? b=some o'
 tups:∀b xs,H b=some (.tup xs)->H' b=some (.tup xs)
 oU:∀b o u,H b=some (.rm o u)->H' b=some (.rm o u)
 p9:∀b ps,H b=some (.yL ps)->∃more,H' b=some (.yL (ps++more))
section
variable {fs fs' ex ex':List Addr}{H H1 H2:Hp}{h h1 h2 h':Heap}{a x e:Addr}{o:HO}
theorem Un.any (u:Un fs ex H H1 h h1){b:Addr}{ob:Obj}(q:h.get? b=some ob)(n:H b=none)(hx:b∉ex):∃sl,h1.get? b=some { ob with slots:=sl }:=by
 by_cases hb:b∈fs
 ·exact u.slot b ob q n hb hx
 ·exact⟨ob.slots,u.keep b ob q n hb hx⟩
theorem Un.kept (k:∀b u,h.get? b=some u->h'.get? b=some u):Un fs ex H H h h':=
 ⟨λb ob q _ _ _=>k b ob q,λb ob q _ _ _=>⟨ob.slots,k b ob q⟩,λ_ _ _ n _=>n,λb ob q _=>⟨ob,k b ob q⟩,λ_ _ q=>q,λ_ _ _ q=>q,λ_ ps q=>⟨#[],by rw[q]; simp⟩⟩
theorem Un.refl:Un fs ex H H h h:=Un.kept λ_ _ q=>q
theorem Un.laid (k:∀b u,h.get? b=some u->h'.get? b=some u)(hp:h.objs.size<=a)(hn:H a=none):Un fs ex H (upd H a o) h h' where
 keep:=λb u q _ _ _=>k b u q
 slot:=λb u q _ _ _=>⟨u.slots,k b u q⟩
 free:=λb u q n _=>by rw[aT (zAn (zAx (kA q) hp))]; exact n
 there:=λb u q _=>⟨u,k b u q⟩
 tups:=λb xs q=>by rw[aT (bX q hn)]; exact q
 oU:=λb u xs q=>by rw[aT (bX q hn)]; exact q
 p9:=λb ps q=>⟨#[],by rw[aT (bX q hn),q]; simp⟩
theorem Un.write (mu:uq (H x))(he:e=x\/H e=some (.own x))(k:∀b u,b≠e->h.get? b=some u->h'.get? b=some u)(heo:∃u,h'.get? e=some u):Un fs ex H (upd H x o) h h':=by
 have hx:∀b,H b=none->b≠x:=λb n z=>by subst z; rw[n] at mu; exact mu
 have hb:∀b,H b=none->b≠e:=λb n z=>by
  subst z
  rcases he with r | r
  ·exact hx b n r
  ·rw[n] at r; cases r
 have hm:∀b u,H b=some u->¬ uq (some u)->b≠x:=λb u q nm z=>by subst z; rw[q] at mu; exact nm mu
 refine⟨λb u q n _ _=>k b u (hb b n) q,λb u q n _ _=>⟨u.slots,k b u (hb b n) q⟩,λb u q n _=>by rw[aT (hx b n)]; exact n,λb u q _=>?_,
  λb xs q=>by rw[aT (hm b _ q λz=>z)]; exact q,λb u xs q=>by rw[aT (hm b _ q λz=>z)]; exact q,λb ps q=>⟨#[],by rw[aT (hm b _ q λz=>z),q]; simp⟩⟩
 by_cases hbe:b=e
 ·subst hbe; exact heo
 ·exact⟨u,k b u hbe q⟩
end
noncomputable def J8 (h:Heap)(H:Hp):List Addr:=(range h.objs.size).filter λa=>(H a).isSome
noncomputable def p_ (h:Heap)(H:Hp):Heap:=PySem.W.hideAll h (J8 h H)
theorem FW (h:Heap)(H:Hp):(p_ h H).objs.size=h.objs.size:=PySem.W.hideAll_size _ _
theorem IA {h:Heap}{H:Hp}{b:Addr}{o:Obj}(e:h.get? b=some o)(n:H b=none):(p_ h H).get? b=some o:=
 PySem.W.hideAll_get _ e λhm=>by
  have q:(H b).isSome=true:=(zAl.mp hm).2
  rw[n] at q; simp at q
theorem LI {h:Heap}{H:Hp}{b:Addr}{o:Obj}(e:(p_ h H).get? b=some o):h.get? b=some o/\H b=none:=by
 have e':h.get? b=some o:=PySem.W.of_hideAll (J8 h H) e
 refine⟨e',?_⟩
 cases q:H b with
 | none=>rfl
 | some x=>
  have hm:b∈J8 h H:=zAl.mpr ⟨zAq.mpr (kA e'),by simp [q]⟩
  have z:(p_ h H).get? b=none:=PySem.W.hideAll_none (J8 h H) hm
  rw[z] at e; cases e
structure Mod (K:zzA)(mg:Str->Option Value)(base:Heap):Prop where
 Nf:K.In base
 glob:base.Ns mainGlobals mg
 blt:∃mb,base.Ns builtinsNs mb/\∀x:Str,x≠"__name__"->mb x=bootBuiltins x
 nolimit:base.NoLimit
structure Cx where
 prog:Program
 w:World
 K:zzA
 mg:Str->Option Value
 base:Heap
 A:Around
 N:List Str
 s₀:Shared
 H₀:Hp
 env:Env
 outer:List Env
 stack:List Env
 ex:List Addr
 fn:Str->Bool
 calm:Bool
 pn:zzC
 xe:zzE
def frs (l:List Env):List Addr:=l.filterMap (·.frame)
abbrev Cx.fs (X:Cx):List Addr:=frs X.outer
noncomputable def J9 (sc:Scope)(x:Str):Prop:=sc.names.lookup x=some .local\/sc.names.lookup x=some .cell\/sc.names.lookup x=some .free
noncomputable def Loc (sc:Scope)(x:Str):Prop:=sc.names.lookup x=some .local\/sc.names.lookup x=some .cell
noncomputable def Look (env:Env)(h:Heap)(m:Str->Option Value)(x:Str)(u:Value):Prop:=
 (env.kindOf x=some .local/\m x=some u)\/((env.kindOf x=some .cell\/env.kindOf x=some .free)/\∃c,env.cells.lookup x=some c/\h.IsCell c (some u))
structure Cx.Ok (X:Cx):Prop where
 mod:Mod X.K X.mg X.base
 kind:X.env.scope.kind=.function
 glob:X.env.globals=mainGlobals
 blt:X.env.builtins=builtinsNs
 above:X.s₀.heap.objs.size<=X.env.locals
 inj:∀x y c,X.env.cells.lookup x=some c->X.env.cells.lookup y=some c->x=y
 has:∀x,(X.env.kindOf x=some .cell\/X.env.kindOf x=some .free)->∃c,X.env.cells.lookup x=some c
 FY:∀x c,X.fn x=true->X.env.cells.lookup x=some c->X.s₀.heap.objs.size<=c
 hd:X.calm=true->X.A.handled=none
 frames:X.A.frames=some X.stack
 stk:X.stack=X.outer\/(X.stack=X.env::X.outer/\X.env.frame=some X.env.locals)
 Ng:∀b∈X.ex,b≠X.env.locals/\∀x c,X.env.cells.lookup x=some c->c≠b
 bs:∀b o,X.base.get? b=some o->X.s₀.heap.get? b=some o/\X.H₀ b=none
 yM:X.base.objs.size<=X.s₀.heap.objs.size
 AA:∀b o,X.base.get? b=some o->b∉X.ex
 AB:∀b∈X.ex,b∉X.fs
 m6:X.s₀.heap.FunFrames X.base X.outer
 C6:∀b∈X.fs,X.H₀ b=none
structure Inv (X:Cx)(pins:zzC)(σ:List (Option V))(H:Hp)(s:Shared):Prop where
 ok:X.Ok
 os:s.os=X.s₀.os
 bare:AllBare s.gens
 base:Un X.fs X.ex X.H₀ H X.s₀.heap s.heap
 loc:∃m,s.heap.Ns X.env.locals m/\∀(i:Nat) (x:Str) (v:V),X.N[i]?=some x->σ[i]?=some (some v)->J9 X.env.scope x->∃u,RelV v u/\Look X.env s.heap m x u
 cell:∀x c,X.env.cells.lookup x=some c->∃v,s.heap.IsCell c v
 free:H X.env.locals=none
 ji:∀x c,X.env.cells.lookup x=some c->H c=none
 pin:∀p∈X.pn++pins,s.heap.get? p.1=some p.2/\H p.1=none/\p.1≠X.env.locals/\p.1∉X.fs/\∀v,p.2.data≠.cell v
 hok:g_ X.prog X.w H s.heap
 len:σ.length=X.N.length
section
variable {X:Cx}{pins:zzC}{σ:List (Option V)}{H H':Hp}{s:Shared}{h':Heap}
theorem Cx.Ok.SR (ok:X.Ok){b:Addr}{o:Obj}(e:X.base.get? b=some o):b∉X.fs:=λhb=>by
 have:=(ok.m6.mem hb).1
 rw[e] at this; cases this
theorem Inv.bs (I:Inv X pins σ H s):∀b o,X.base.get? b=some o->s.heap.get? b=some o/\H b=none:=λb o e=>
 ⟨I.base.keep b o (I.ok.bs b o e).1 (I.ok.bs b o e).2 (I.ok.SR e) (I.ok.AA b o e),I.base.free b o (I.ok.bs b o e).1 (I.ok.bs b o e).2 (I.ok.AA b o e)⟩
theorem Inv.bk (I:Inv X pins σ H s):∀b o,X.base.get? b=some o->s.heap.get? b=some o:=λb o e=>(I.bs b o e).1
theorem Inv.mod (I:Inv X pins σ H s):Mod X.K X.mg X.base:=I.ok.mod
theorem Inv.C7 (I:Inv X pins σ H s):X.K.In s.heap:=I.ok.mod.Nf.keeps I.bk
theorem Inv.lt (I:Inv X pins σ H s):X.env.locals < s.heap.objs.size:=let ⟨_,hn,_⟩:=I.loc; hn.lt
theorem Inv.sz (I:Inv X pins σ H s):X.s₀.heap.objs.size<=s.heap.objs.size:=zAu I.ok.above (le_of_lt I.lt)
theorem Inv.SS (I:Inv X pins σ H s){a:Addr}(h:s.heap.objs.size<=a):a∉X.fs:=λhb=>by
 obtain⟨_,o,ho,_⟩:=I.ok.m6.mem hb
 exact absurd (zAx (kA ho) (zAu I.sz h)) (zB6 _)
theorem Inv.AD (I:Inv X pins σ H s):∀x c,X.env.cells.lookup x=some c->c≠X.env.locals:=λx c e z=>by
 obtain⟨v,o,ho,hd⟩:=I.cell x c e
 obtain⟨m,⟨o',es,ep,ho',hd',_⟩,_⟩:=I.loc
 rw[z,ho'] at ho; cases ho; rw[hd'] at hd; cases hd
theorem Inv.m6 (I:Inv X pins σ H s):s.heap.FunFrames X.base X.outer:=by
 have all:∀(l:List Env),(∀b∈frs l,b∈X.fs)->X.s₀.heap.FunFrames X.base l->s.heap.FunFrames X.base l:=by
  intro l
  induction l with
  | nil=>intro _ _; trivial
  | cons env r ih=>
   intro hs hl
   obtain⟨hk,⟨L,o,hf,hn,ho,hd⟩,hr⟩:=hl
   have hL:L∈X.fs:=hs L (by unfold frs; rw[List.filterMap_cons,hf]; exact zAs)
   obtain⟨sl,e⟩:=I.base.slot L o ho (I.ok.C6 L hL) hL λz=>I.ok.AB L z hL
   exact⟨hk,⟨L,_,hf,hn,e,hd⟩,ih (λb hb=>hs b (by unfold frs; rw[List.filterMap_cons,hf]; exact zAr _ hb)) hr⟩
 exact all X.outer (λ_ hb=>hb) I.ok.m6
theorem Inv.stack (I:Inv X pins σ H s):s.heap.FunFrames X.base X.stack:=by
 rcases I.ok.stk with e | ⟨e,hf⟩
 ·rw[e]; exact I.m6
 ·rw[e]
  obtain⟨m,hn,_⟩:=I.loc
  refine .cons (by rw[I.ok.kind]; decide) hf hn ?_ I.m6
  exact Heap.get?_none_of_le (zAu I.ok.yM I.ok.above)
theorem Inv.AE (I:Inv X pins σ H s):∀b∈frs X.stack,b∈X.env.locals::X.fs:=λb hb=>by
 rcases I.ok.stk with e | ⟨e,hf⟩
 ·rw[e] at hb; exact zAr _ hb
 ·rw[e] at hb
  unfold frs at hb
  rw[List.filterMap_cons,hf] at hb
  exact hb
theorem Inv.C8 (I:Inv X pins σ H s):∀b∈frs X.stack,H b=none:=λb hb=>by
 rcases wS.mp (I.AE b hb) with e | hb
 ·rw[e]; exact I.free
 ·obtain⟨_,o,ho,_⟩:=I.ok.m6.mem hb
  exact I.base.free b o ho (I.ok.C6 b hb) λz=>I.ok.AB b z hb
theorem Inv.step {g':Array GenState}{t':Nat}{d':Drawn}{ch:List Addr}(I:Inv X pins σ H s)
  (hch:∀b∈ch,(b∈X.ex\/X.s₀.heap.objs.size<=b)/\b≠X.env.locals/\(∀x c,X.env.cells.lookup x=some c->c≠b)/\∀p∈X.pn++pins,p.1≠b)
  (keep:∀b o,b≠X.env.locals->b∉X.fs->b∉ch->s.heap.get? b=some o->H b=none->h'.get? b=some o)
  (slot:∀b o,b≠X.env.locals->b∈X.fs->b∉ch->s.heap.get? b=some o->H b=none->∃sl,h'.get? b=some { o with slots:=sl }) (free:∀b o,b∉ch->s.heap.get? b=some o->H b=none->H' b=none)
  (there:∀b o,b∉ch->s.heap.get? b=some o->∃o',h'.get? b=some o')
  (tups:∀b xs,H b=some (.tup xs)->H' b=some (.tup xs)) (oU:∀b o u,H b=some (.rm o u)->H' b=some (.rm o u)) (p9:∀b ps,H b=some (.yL ps)->∃more,H' b=some (.yL (ps++more)))
  (ns:∀m,s.heap.Ns X.env.locals m->h'.Ns X.env.locals m) (hok:g_ X.prog X.w H' h') (hg:AllBare g') :
  Inv X pins σ H' { s with heap:=h',gens:=g',drawn:=d',toks:=t' }:=by
 have neL:∀b o,X.s₀.heap.get? b=some o->b≠X.env.locals:=λb o e=>zAn (zAx (kA e) I.ok.above)
 have neC:∀b o,X.s₀.heap.get? b=some o->b∉X.ex->b∉ch:=λb o e hx hb=>by
  rcases (hch b hb).1 with z | z
  ·exact hx z
  ·exact absurd (zAx (kA e) z) (zB6 _)
 have cellK:∀x c,X.env.cells.lookup x=some c->∀v,s.heap.IsCell c v->h'.IsCell c v:=λx c e v ⟨o,ho,hd⟩=>by
  have FZ:c∉ch:=λz=>(hch c z).2.2.1 x c e rfl
  by_cases hc:c∈X.fs
  ·obtain⟨sl,q⟩:=slot c o (I.AD x c e) hc FZ ho (I.ji x c e)
   exact⟨_,q,hd⟩
  ·exact⟨o,keep c o (I.AD x c e) hc FZ ho (I.ji x c e),hd⟩
 refine⟨I.ok,I.os,hg,⟨λb o e n hb hx=>?_,λb o e n hb hx=>?_,λb o e n hx=>?_,λb o e hx=>?_,λb xs e=>tups b xs (I.base.tups b xs e),λb o xs e=>oU b o xs (I.base.oU b o xs e),λb ps e=>?_⟩,?_,λx c e=>?_,?_,λx c e=>?_,λp hp=>?_,hok,I.len⟩
 ·exact keep b o (neL b o e) hb (neC b o e hx) (I.base.keep b o e n hb hx) (I.base.free b o e n hx)
 ·obtain⟨sl,e1⟩:=I.base.slot b o e n hb hx
  obtain⟨Uj,e2⟩:=slot b _ (neL b o e) hb (neC b o e hx) e1 (I.base.free b o e n hx)
  exact⟨Uj,e2⟩
 ·obtain⟨o',e1⟩:=I.base.there b o e hx
  exact free b o' (neC b o e hx) e1 (I.base.free b o e n hx)
 ·obtain⟨o',e1⟩:=I.base.there b o e hx
  exact there b o' (neC b o e hx) e1
 ·obtain⟨m1,e1⟩:=I.base.p9 b ps e
  obtain⟨m2,e2⟩:=p9 b _ e1
  exact⟨m1++m2,by rw[e2,Array.append_assoc]⟩
 ·obtain⟨m,hn,hl⟩:=I.loc
  refine⟨m,ns m hn,λi x v e1 e2 e3=>?_⟩
  obtain⟨u,r,l⟩:=hl i x v e1 e2 e3
  refine⟨u,r,?_⟩
  rcases l with l | ⟨k,c,e,z⟩
  ·exact .inl l
  ·exact .inr ⟨k,c,e,cellK x c e _ z⟩
 ·obtain⟨v,z⟩:=I.cell x c e
  exact⟨v,cellK x c e v z⟩
 ·obtain⟨m,⟨o,_,_,ho,_⟩,_⟩:=I.loc
  exact free _ o (λz=>(hch _ z).2.1 rfl) ho I.free
 ·obtain⟨v,o,ho,hd⟩:=I.cell x c e
  exact free c o (λz=>(hch c z).2.2.1 x c e rfl) ho (I.ji x c e)
 ·obtain⟨e,n,ne,nf,d⟩:=I.pin p hp
  have FZ:p.1∉ch:=λz=>(hch p.1 z).2.2.2 p hp rfl
  exact⟨keep p.1 p.2 ne nf FZ e n,free p.1 p.2 FZ e n,ne,nf,d⟩
theorem Inv.un {t':Nat}(I:Inv X pins σ H s)(u:Un X.fs [] H H' s.heap h')(hok:g_ X.prog X.w H' h'):Inv X pins σ H' { s with heap:=h',toks:=t' }:=by
 obtain⟨m,⟨o,es,ep,ho,r⟩,_⟩:=id I.loc
 obtain⟨sl,hL⟩:=u.any ho I.free (by simp)
 exact I.step (g':=s.gens) (d':=s.drawn) (ch:=[]) (λ_ z=>nomatch z) (λb o _ hb _ e n=>u.keep b o e n hb (by simp)) (λb o _ hb _ e n=>u.slot b o e n hb (by simp)) (λb o _ e n=>u.free b o e n (by simp)) (λb o _ e=>u.there b o e (by simp)) u.tups u.oU u.p9 (λm' hm=>by
  obtain⟨o',es',qv,ho',r'⟩:=hm
  rw[ho] at ho'; cases ho'
  exact⟨_,es',qv,hL,r'⟩) hok I.bare
theorem Inv.call {g':Array GenState}{t':Nat}{d':Drawn}{ch:List Addr}(I:Inv X pins σ H s)(u:Un (frs X.stack) ch H H' s.heap h')(hok:g_ X.prog X.w H' h')(hg:AllBare g')
  (hch:∀b∈ch,(b∈X.ex\/X.s₀.heap.objs.size<=b)/\b≠X.env.locals/\(∀x c,X.env.cells.lookup x=some c->c≠b)/\∀p∈X.pn++pins,p.1≠b) :
  Inv X pins σ H' { s with heap:=h',gens:=g',drawn:=d',toks:=t' }:=by
 obtain⟨m,⟨o,es,ep,ho,r⟩,_⟩:=id I.loc
 obtain⟨sl,hL⟩:=u.any ho I.free λz=>(hch _ z).2.1 rfl
 exact I.step (ch:=ch) hch (λb o hL hb hc e n=>u.keep b o e n (λz=>(wS.mp (I.AE b z)).elim hL hb) hc) (λb o _ _ hc e n=>u.any e n hc) (λb o hc e n=>u.free b o e n hc) (λb o hc e=>u.there b o e hc) u.tups u.oU u.p9 (λm' hm=>by
  obtain⟨o',es',qv,ho',r'⟩:=hm
  rw[ho] at ho'; cases ho'
  exact⟨_,es',qv,hL,r'⟩) hok hg
theorem Inv.turned {t':Nat}{it:Addr}(I:Inv X pins σ H s)(k:∀b o,b≠it->s.heap.get? b=some o->h'.get? b=some o)(hn:H it=none)(hL:it≠X.env.locals)
  (h1:it∈X.ex\/X.s₀.heap.objs.size<=it) (h2:∀x c,X.env.cells.lookup x=some c->c≠it) (h3:∀p∈X.pn++pins,p.1≠it):Inv X pins σ H { s with heap:=h',toks:=t' }:=by
 have Rr:∀b u,H b=some u->b≠it:=λb u e z=>by rw[z,hn] at e; cases e
 refine I.step (g':=s.gens) (d':=s.drawn) (ch:=[it]) (λb hb=>?_) (λb o _ _ hc e _=>k b o (λz=>hc (by simp [z])) e) (λb o _ _ hc e _=>⟨o.slots,k b o (λz=>hc (by simp [z])) e⟩) (λ_ _ _ _ n=>n)
  (λb o hc e=>⟨o,k b o (λz=>hc (by simp [z])) e⟩) (λ_ _ e=>e) (λ_ _ _ e=>e) (λb ps e=>⟨#[],by rw[e]; simp⟩) (λm hm=>?_) (λb u e=>?_) I.bare
 ·have e:b=it:=by simpa using hb
  subst e
  exact⟨h1,hL,h2,h3⟩
 ·obtain⟨o,es,ep,ho,r⟩:=hm
  exact⟨o,es,ep,k _ o (Ne.symm hL) ho,r⟩
 ·refine (I.hok b u e).stay (λc v hc q=>k c v ?_ q) (λ_ q=>q) λ_ _ q=>q
  rcases hc with z | z
  ·rw[z]; exact Rr b u e
  ·exact Rr c _ z
theorem Inv.tok (I:Inv X pins σ H s)(t:Nat):Inv X pins σ H { s with toks:=t }:=I.un (h':=s.heap) (t':=t) Un.refl I.hok
theorem Inv.kept {t':Nat}(I:Inv X pins σ H s)(k:∀b u,s.heap.get? b=some u->h'.get? b=some u):Inv X pins σ H { s with heap:=h',toks:=t' }:=I.un (Un.kept k) (I.hok.kept k)
theorem Inv.laid {a:Addr}{o:HO}{t':Nat}(I:Inv X pins σ H s)(k:∀b u,s.heap.get? b=some u->h'.get? b=some u)(hp:s.heap.objs.size<=a)(new:bR X.prog X.w (upd H a o) h' a o) :
  Inv X pins σ (upd H a o) { s with heap:=h',toks:=t' }:=I.un (Un.laid k hp (I.hok.fresh hp)) (I.hok.laid k hp new)
theorem Inv.write {x e:Addr}{o:HO}{t':Nat}(I:Inv X pins σ H s)(mu:uq (H x))(he:e=x\/H e=some (.own x))(k:∀b u,b≠e->s.heap.get? b=some u->h'.get? b=some u)(heo:∃u,h'.get? e=some u)
  (new:bR X.prog X.w (upd H x o) h' x o):Inv X pins σ (upd H x o) { s with heap:=h',toks:=t' }:=I.un (Un.write mu he k heo) (I.hok.write mu he k heo new)
theorem Inv.C9 {J_:zzC}(I:Inv X pins σ H s)(h:∀p∈J_,s.heap.get? p.1=some p.2/\H p.1=none/\p.1≠X.env.locals/\p.1∉X.fs/\∀v,p.2.data≠.cell v):Inv X J_ σ H s:=
 ⟨I.ok,I.os,I.bare,I.base,I.loc,I.cell,I.free,I.ji,λp hp=>(wT.mp hp).elim (λz=>I.pin p (zCv _ z)) (h p),I.hok,I.len⟩
theorem AF {N:List Str}(hN:N.Nodup){i j:Nat}{x:Str}(a:N[i]?=some x)(b:N[j]?=some x):i=j:=by
 obtain⟨h1,e1⟩:=zAp.mp a
 obtain⟨h2,e2⟩:=zAp.mp b
 exact (List.getElem_inj hN).mp (e1.trans e2.symm)
theorem yN {M:Model}{A:Around}{E:zzE}{i:Nat}{x:Str}{v:V}{u:Value}{Q:Unit->Shared->Prop}(I:Inv X pins σ H s)(hN:X.N.Nodup)(hi:X.N[i]?=some x)(hx:Loc X.env.scope x)(r:RelV v u)
  (h:∀s',Inv X pins (σ.set i (some v)) H s'->(∃a,Heap.SameBut a s.heap s'.heap/\(a=X.env.locals\/X.env.cells.lookup x=some a))->Q () s') (hf:X.fn x=true\/X.env.scope.names.lookup x=some .local:=by first | exact .inl rfl | exact .inr rfl | assumption):wpAny M A (storeName X.env x u) Q E s:=by
 obtain⟨m,hn,hl⟩:=id I.loc
 have hcls:(X.env.scope.kind == .class||(X.env.scope.kind == .module&&X.env.locals != X.env.globals))=false:=by rw[I.ok.kind]; rfl
 have hiσ:i < σ.length:=by rw[I.len]; exact (zAp.mp hi).1
 have AD:=I.AD
 have tracked:∀{a:Addr} {h':Heap},(∃o,s.heap.get? a=some o/\H a=none)->Heap.SameBut a s.heap h'->g_ X.prog X.w H h':=λ{a h'} ha hs b ob e=>by
  obtain⟨_,_,hfree⟩:=ha
  refine (I.hok b ob e).stay (λc w' hc q=>(hs.2 c ?_).trans q) (λ_ q=>q) λ_ _ q=>q
  rintro rfl
  rcases hc with rfl | hc
  ·rw[hfree] at e; cases e
  ·rw[hfree] at hc; cases hc
 rcases hx with hk | hk
 ·refine wpAny_storeName_local hk hn (λh' hn' hs=>?_) hcls
  obtain⟨oL,_,_,Uk,_⟩:=id hn
  refine h _ ⟨I.ok,I.os,I.bare,⟨λb o e n hb hx=>?_,λb o e n hb hx=>?_,I.base.free,λb o e hx=>?_,I.base.tups,I.base.oU,I.base.p9⟩,⟨_,hn',λj y v' e1 e2 e3=>?_⟩,λy c e=>?_,I.free,I.ji,λp hp=>?_,tracked ⟨oL,Uk,I.free⟩ hs,by simpa using I.len⟩ ⟨_,hs,.inl rfl⟩
  ·exact (hs.2 b (zAn (zAx (kA e) I.ok.above))).trans (I.base.keep b o e n hb hx)
  ·obtain⟨sl,e1⟩:=I.base.slot b o e n hb hx
   exact⟨sl,(hs.2 b (zAn (zAx (kA e) I.ok.above))).trans e1⟩
  ·obtain⟨o',e1⟩:=I.base.there b o e hx
   exact⟨o',(hs.2 b (zAn (zAx (kA e) I.ok.above))).trans e1⟩
  ·by_cases hj:j=i
   ·subst hj
    rw[hi] at e1; cases e1
    rw[List.getElem?_set_self hiσ] at e2
    cases e2
    exact⟨u,r,.inl ⟨hk,by simp⟩⟩
   ·rw[List.getElem?_set_ne (Ne.symm hj)] at e2
    obtain⟨u',r',q⟩:=hl j y v' e1 e2 e3
    refine⟨u',r',?_⟩
    rcases q with ⟨k,e⟩ | ⟨k,c,e,z⟩
    ·refine .inl ⟨k,?_⟩
     have:y≠x:=λe=>hj (AF hN e1 (e ▸ hi))
     simp [this,e]
    ·exact .inr ⟨k,c,e,z.sameBut hs (AD y c e)⟩
  ·obtain⟨w',z⟩:=I.cell y c e
   exact⟨w',z.sameBut hs (AD y c e)⟩
  ·obtain⟨e,n,ne,nf,d⟩:=I.pin p hp
   exact⟨(hs.2 p.1 ne).trans e,n,ne,nf,d⟩
 ·have hfn:X.fn x=true:=by
   rcases hf with z | z
   ·exact z
   ·rw[z] at hk; cases hk
  obtain⟨c,hc⟩:=I.ok.has x (.inl hk)
  obtain⟨w',z⟩:=I.cell x c hc
  refine wpAny_storeName_cell I.ok.kind hk hc z (λh' hc' hs=>?_)
  obtain⟨oc,hoc,SV⟩:=id z
  refine h { s with heap:=h' } ⟨I.ok,I.os,I.bare,⟨λb o e n hb hx=>?_,λb o e n hb hx=>?_,I.base.free,λb o e hx=>?_,I.base.tups,I.base.oU,I.base.p9⟩,⟨m,hn.sameBut hs (Ne.symm (AD x c hc)),λj y v' e1 e2 e3=>?_⟩,λy c' e=>?_,I.free,I.ji,λp hp=>?_,tracked ⟨oc,hoc,I.ji x c hc⟩ hs,by simpa using I.len⟩ ⟨c,hs,.inr hc⟩
  ·exact (hs.2 b (zAn (zAx (kA e) (I.ok.FY x c hfn hc)))).trans (I.base.keep b o e n hb hx)
  ·obtain⟨sl,e1⟩:=I.base.slot b o e n hb hx
   exact⟨sl,(hs.2 b (zAn (zAx (kA e) (I.ok.FY x c hfn hc)))).trans e1⟩
  ·obtain⟨o',e1⟩:=I.base.there b o e hx
   exact⟨o',(hs.2 b (zAn (zAx (kA e) (I.ok.FY x c hfn hc)))).trans e1⟩
  ·by_cases hj:j=i
   ·subst hj
    rw[hi] at e1; cases e1
    rw[List.getElem?_set_self hiσ] at e2
    cases e2
    exact⟨u,r,.inr ⟨.inl hk,c,hc,hc'⟩⟩
   ·rw[List.getElem?_set_ne (Ne.symm hj)] at e2
    obtain⟨u',r',q⟩:=hl j y v' e1 e2 e3
    refine⟨u',r',?_⟩
    rcases q with q | ⟨k,c',e,z'⟩
    ·exact .inl q
    ·refine .inr ⟨k,c',e,z'.sameBut hs ?_⟩
     rintro rfl
     exact hj (AF hN e1 (I.ok.inj _ _ _ e hc ▸ hi))
  ·by_cases hcc:c'=c
   ·subst hcc; exact⟨_,hc'⟩
   ·obtain⟨w2,z2⟩:=I.cell y c' e
    exact⟨w2,z2.sameBut hs hcc⟩
  ·obtain⟨e,n,ne,nf,d⟩:=I.pin p hp
   refine⟨(hs.2 p.1 ?_).trans e,n,ne,nf,d⟩
   intro q
   rw[q,hoc] at e
   have q':oc=p.2:=zAh e
   exact d w' (by rw[←q']; exact SV)
theorem AG {M:Model}{A:Around}{E:zzE}{i:Nat}{x:Str}{v:V}{u:Value}{Q:Unit->Shared->Prop}(I:Inv X pins σ H s)(hN:X.N.Nodup)(hi:X.N[i]?=some x)(hx:Loc X.env.scope x)(r:RelV v u)
  (h:∀s',Inv X pins (σ.set i (some v)) H s'->Q () s') (hf:X.fn x=true\/X.env.scope.names.lookup x=some .local:=by first | exact .inl rfl | exact .inr rfl | assumption):wpAny M A (storeName X.env x u) Q E s:=
 yN I hN hi hx r (λs' I' _=>h s' I') hf
theorem Inv.QD {s':Shared}{ch:List Addr}(I:Inv X pins σ H s)(ho:s'.os=s.os)(u:Un (frs X.stack) ch H H' s.heap s'.heap)(hok:g_ X.prog X.w H' s'.heap)(hg:AllBare s'.gens)
  (hch:∀b∈ch,(b∈X.ex\/X.s₀.heap.objs.size<=b)/\b≠X.env.locals/\(∀x c,X.env.cells.lookup x=some c->c≠b)/\∀p∈X.pn++pins,p.1≠b):Inv X pins σ H' s':=by
 obtain⟨h',g',d',t',o'⟩:=s'
 have e:o'=s.os:=ho
 subst e
 exact I.call (g':=g') (t':=t') (d':=d') u hok hg hch
end
abbrev XK:=Value->Option Addr->Hp->Prop
abbrev St:=List (Option V)
abbrev VK:=V->Hp->Prop
abbrev TE:=St->Hp->VK->Prop
abbrev TT:=St->Hp->(Bool->Hp->Prop)->Prop
abbrev TA:=St->Hp->(List V->Hp->Prop)->Prop
structure Ends where
 nx:St->Hp->Prop
 rt:VK
 bk:St->Hp->Prop:=λ_ _=>False
 ct:St->Hp->Prop:=λ_ _=>False
abbrev TS:=Ends->St->Hp->Prop
noncomputable def EP (X:Cx)(pins:zzC)(σ:St)(Q:VK)(u:Value)(s':Shared):Prop:=∃v H',Inv X pins σ H' s'/\RelV v u/\Q v H'
noncomputable def TP (X:Cx)(pins:zzC)(σ:St)(Q:Bool->Hp->Prop)(b:Bool)(s':Shared):Prop:=∃H',Inv X pins σ H' s'/\Q b H'
noncomputable def AP (X:Cx)(pins:zzC)(σ:St)(Q:List V->Hp->Prop)(us:List Value)(s':Shared):Prop:=∃vs H',Inv X pins σ H' s'/\Vals vs us/\Q vs H'
noncomputable def SP (X:Cx)(pins:zzC)(D:Ends)(f:Flow)(s':Shared):Prop:=
 match f with
 | .next=>∃σ' H',Inv X pins σ' H' s'/\D.nx σ' H'
 | .brk=>∃σ' H',Inv X pins σ' H' s'/\D.bk σ' H'
 | .cont=>∃σ' H',Inv X pins σ' H' s'/\D.ct σ' H'
 | .ret u=>∃v σ' H',Inv X pins σ' H' s'/\RelV v u/\D.rt v H'
noncomputable def PE (X:Cx)(e:Expr)(t:TE):Prop:=
 ∀(pins:zzC) (s:Shared) (σ:St) (H:Hp) (Q:VK),Inv X pins σ H s->t σ H Q->wpAny (model X.prog X.w) X.A (eval e X.env) (EP X pins σ Q) X.xe s
noncomputable def PT (X:Cx)(e:Expr)(t:TT):Prop:=
 ∀(pins:zzC) (s:Shared) (σ:St) (H:Hp) (Q:Bool->Hp->Prop),Inv X pins σ H s->t σ H Q->wpAny (model X.prog X.w) X.A (isTrue e X.env (eval e X.env)) (TP X pins σ Q) X.xe s
noncomputable def PW (X:Cx)(e:Expr)(t:TT):Prop:=
 ∀(whole:Sem Value) (pins:zzC) (s:Shared) (σ:St) (H:Hp) (Q:Bool->Hp->Prop),Inv X pins σ H s->t σ H Q->wpAny (model X.prog X.w) X.A (isTrue e X.env whole) (TP X pins σ Q) X.xe s
theorem PW.pt {X:Cx}{e:Expr}{t:TT}(h:PW X e t):PT X e t:=h _
def PA (X:Cx)(es:List Expr)(t:TA):Prop:=
 ∀(pos:Pos) (pins:zzC) (s:Shared) (σ:St) (H:Hp) (Q:List V->Hp->Prop),Inv X pins σ H s->t σ H Q->wpAny (model X.prog X.w) X.A (spliced (backTo pos (starEach es X.env))) (AP X pins σ Q) X.xe s
noncomputable def PS (X:Cx)(st:Stmt)(t:TS):Prop:=
 ∀(pins:zzC) (s:Shared) (σ:St) (H:Hp) (D:Ends),Inv X pins σ H s->t D σ H->wpAny (model X.prog X.w) X.A (exec st X.env) (SP X pins D) X.xe s
noncomputable def qw (X:Cx)(st:List Stmt)(t:TS):Prop:=
 ∀(pins:zzC) (s:Shared) (σ:St) (H:Hp) (D:Ends),Inv X pins σ H s->t D σ H->wpAny (model X.prog X.w) X.A (execs st X.env) (SP X pins D) X.xe s
theorem aZ {α:Type}{t:Sem α}{Q Q':α->Shared->Prop}{M:Model}{A:Around}{E:zzE}{s:Shared}(h:wpAny M A t Q E s)(hQ:∀a s,Q a s->Q' a s):wpAny M A t Q' E s:=zCw h hQ λ_ _ x=>x
section
variable {X:Cx}
theorem bin {a b:Expr}{ta tb:TE}(ha:PE X a ta)(hb:PE X b tb){pins:zzC}{s:Shared}{σ:St}{H:Hp}{R:V->V->Hp->Prop}(I:Inv X pins σ H s)(h:ta σ H λx H1=>tb σ H1 λy H2=>R x y H2)
  {α:Type} {Q:α->Shared->Prop} {f:Value->Value->Sem α}
  (hf:∀v u s2 x y H2,Inv X pins σ H2 s2->RelV x v->RelV y u->R x y H2->wpAny (model X.prog X.w) X.A (f v u) Q X.xe s2) :
  wpAny (model X.prog X.w) X.A (eval a X.env) (λv s₁=>wpAny (model X.prog X.w) X.A (eval b X.env) (λu s₂=>wpAny (model X.prog X.w) X.A (f v u) Q X.xe s₂) X.xe s₁) X.xe s:=by
 refine aZ (ha pins s σ H _ I h) λv s1 ⟨x,H1,I1,r1,q1⟩=>?_
 refine aZ (hb pins s1 σ H1 _ I1 q1) λu s2 ⟨y,H2,I2,r2,q2⟩=>?_
 exact hf v u s2 x y H2 I2 r1 r2 q2
noncomputable def fB (i:Nat):TE:=fun σ H Q=>∃v,σ[i]?=some (some v)/\Q v H
noncomputable def tC (v:V):TE:=λ_ H Q=>Q v H
theorem Nh {i:Nat}{x:Str}{pos:Pos}(hN:X.N[i]?=some x)(hv:J9 X.env.scope x)(hd:(x == ("__debug__":Str))=false:=by decide)(hcd:(x == ("__classdict__":Str))=false:=by decide):PE X (.Name x pos) (fB i):=by
 intro pins s σ H Q I h
 obtain⟨v,e,h⟩:=h
 obtain⟨m,hn,hl⟩:=I.loc
 obtain⟨u,r,l⟩:=hl i x v hN e hv
 have fin:EP X pins σ Q u s:=⟨v,H,I,r,h⟩
 rcases l with ⟨hk,hm⟩ | ⟨hk,c,hc,hcell⟩
 ·exact wpAny_Name (wpAny_loadName_local I.ok.kind hk hn hm fin) hd
 ·rcases hk with hk | hk
  ·exact wpAny_Name (wpAny_loadName_cell I.ok.kind hk hc hcell fin) hd
  ·exact wpAny_Name (wpAny_loadName_free I.ok.kind hk hc hcell fin hcd) hd
theorem aj {i j pos}:PE X (.Constant (.int i) j pos) (tC (.int i)):=λ_ _ _ H _ I h=>wpAny_Constant_int ⟨.int i,H,I.tok _,⟨_,rfl⟩,h⟩
theorem lZ {b j pos}:PE X (.Constant (.bool b) j pos) (tC (.bl b)):=λ_ _ _ H _ I h=>Constant_bool ⟨.bl b,H,I,rfl,h⟩
theorem Ni {j pos}:PE X (.Constant .none j pos) (tC .bq):=λ_ _ _ H _ I h=>Constant_none ⟨.bq,H,I,rfl,h⟩
theorem k8 {x j pos}:PE X (.Constant (.str x) j pos) (tC (.str x)):=λ_ _ _ H _ I h=>Calls.Constant_str ⟨.str x,H,I.tok _,⟨_,rfl⟩,h⟩
def Gl (X:Cx)(x:Str):Prop:=X.env.kindOf x=some .globalImplicit
theorem C_ {E:zzE}{pins:zzC}{s:Shared}{σ:St}{H:Hp}{x:Str}{u:Value}{pos:Pos}{Q:zzE}(I:Inv X pins σ H s)(hg:Gl X x)(hm:X.mg x=some u)(h:Q u s)
  (hd:(x == ("__debug__":Str))=false:=by decide):wpAny (model X.prog X.w) X.A (eval (.Name x pos) X.env) Q E s:=
 Calls.Name_function_global I.ok.kind hg (Calls.loadGlobal_global (by rw[I.ok.glob]; exact I.mod.glob.keeps I.bk) hm h) hd
theorem o6 {E:zzE}{pins:zzC}{s:Shared}{σ:St}{H:Hp}{x:Str}{u:Value}{pos:Pos}{Q:zzE}(I:Inv X pins σ H s)(hg:Gl X x)(hm:X.mg x=none)(hv:bootBuiltins x=some u)(h:Q u s)
  (hn:x≠"__name__":=by decide) (hd:(x == ("__debug__":Str))=false:=by decide):wpAny (model X.prog X.w) X.A (eval (.Name x pos) X.env) Q E s:=by
 obtain⟨mb,h1,h2⟩:=I.mod.blt
 exact Calls.Name_function_global I.ok.kind hg (Calls.loadGlobal_builtin (by rw[I.ok.glob]; exact I.mod.glob.keeps I.bk) hm (by rw[I.ok.blt]; exact h1.keeps I.bk) ((h2 x hn).trans hv) h) hd
theorem c8 {x:Str}{v:V}{u:Value}{pos:Pos}(hg:Gl X x)(hm:X.mg x=some u)(r:RelV v u)(hd:(x == ("__debug__":Str))=false:=by decide):PE X (.Name x pos) (tC v):=
 λ_ _ _ H _ I h=>C_ I hg hm ⟨v,H,I,r,h⟩ hd
variable {a b:Expr}{ta tb:TE}{pos:Pos}
noncomputable def PC (X:Cx)(op:CmpOp)(a b:Expr)(t:TE):Prop:=
 ∀(pins:zzC) (s:Shared) (σ:St) (H:Hp) (Q:VK),Inv X pins σ H s->t σ H Q->
  wpAny (model X.prog X.w) X.A (eval a X.env) (λv s₁=>wpAny (model X.prog X.w) X.A (eval b X.env) (λu s₂=>wpAny (model X.prog X.w) X.A (compareOp op v u) (EP X pins σ Q) X.xe s₂) X.xe s₁) X.xe s
noncomputable def tB (t:TE):TT:=fun σ H Q=>t σ H λx H1=>∃c,x=.bl c/\Q c H1
theorem Ul {op:CmpOp}{t:TE}(h:PC X op a b t)(h1:behindInMarks op b=false:=by first | exact SW _ (by decide) (by decide) | rfl):PT X (.Compare a [op] [b] pos) (tB t):=by
 intro pins s σ H Q I hw
 refine wpAny_isTrue_Compare1 (aZ (h pins s σ H _ I hw) λv s1 h1=>aZ h1 λu s2 h2=>aZ h2 λc s3 ⟨x,H1,I1,r1,q1⟩=>?_) h1
 obtain⟨d,rfl,q⟩:=q1
 cases r1
 exact zCy ⟨H1,I1,q⟩
theorem jN {e:Expr}{t:TE}(h:PE X e t)(he:∀whole,isTrue e X.env whole=(do let v ←whole; standAt e.pos; holding [v] (truthy v)):=by intro _; rfl):PT X e (tB t):=by
 intro pins s σ H Q I hw
 refine isTrue_plain (aZ (h pins s σ H _ I hw) λv s1 ⟨x,H1,I1,r1,q1⟩=>?_) (he _)
 obtain⟨d,rfl,q⟩:=q1
 cases r1
 exact zCy ⟨H1,I1,q⟩
variable {tA Ka:TT}{rest:List Expr}
noncomputable def Nj (t u:TT):TT:=fun σ H Q=>t σ H λc H1=>if c=true then u σ H1 Q else Q false H1
noncomputable def Rt (t u:TT):TT:=fun σ H Q=>t σ H λc H1=>if c=true then Q true H1 else u σ H1 Q
noncomputable def Nk (t:TT):TT:=fun σ H Q=>t σ H λc H1=>Q (!c) H1
theorem xG (ha:PT X a tA):PW X (.BoolOp .And [a] pos) tA:=by
 intro wh pins s σ H Q I h
 refine isTrue_and (aZ (ha pins s σ H Q I h) λc s1 e=>?_)
 cases c with
 | true=>exact isTrue_and_nil e
 | false=>exact e
theorem F0 (ha:PT X a tA):PW X (.BoolOp .Or [a] pos) tA:=by
 intro wh pins s σ H Q I h
 refine isTrue_or (aZ (ha pins s σ H Q I h) λc s1 e=>?_)
 cases c with
 | false=>exact isTrue_or_nil e
 | true=>exact e
theorem AH (ha:PT X a tA)(hb:PW X (.BoolOp .And (b::rest) pos) Ka):PW X (.BoolOp .And (a::b::rest) pos) (Nj tA Ka):=by
 intro wh pins s σ H Q I h
 refine isTrue_and (aZ (ha pins s σ H _ I h) λc s1 ⟨H1,I1,q1⟩=>?_)
 cases c with
 | true=>exact hb wh pins s1 σ H1 Q I1 q1
 | false=>exact⟨H1,I1,q1⟩
theorem Kc (ha:PT X a tA)(hb:PW X (.BoolOp .Or (b::rest) pos) Ka):PW X (.BoolOp .Or (a::b::rest) pos) (Rt tA Ka):=by
 intro wh pins s σ H Q I h
 refine isTrue_or (aZ (ha pins s σ H _ I h) λc s1 ⟨H1,I1,q1⟩=>?_)
 cases c with
 | true=>exact⟨H1,I1,q1⟩
 | false=>exact hb wh pins s1 σ H1 Q I1 q1
theorem AI (ha:PT X a tA):PT X (.UnaryOp .Not a pos) (Nk tA):=by
 intro pins s σ H Q I h
 exact isTrue_not (ha pins s σ H (λc H1=>Q (!c) H1) I h)
noncomputable def Ke (ta tb:TE):TE:=fun σ H Q=>ta σ H λx H1=>∃c,x=.bl c/\if c=true then tb σ H1 Q else Q (.bl false) H1
noncomputable def Nl (ta tb:TE):TE:=fun σ H Q=>ta σ H λx H1=>∃c,x=.bl c/\if c=true then Q (.bl true) H1 else tb σ H1 Q
theorem rq {op}{t:TE}(h:PE X a t):PE X (.BoolOp op [a] pos) t:=λpins s σ H Q I hw=>BoolOp_one (h pins s σ H Q I hw)
theorem AJ (ha:PE X a ta)(hb:PE X (.BoolOp .And (b::rest) pos) tb):PE X (.BoolOp .And (a::b::rest) pos) (Ke ta tb):=by
 intro pins s σ H Q I h
 refine BoolOp_and (aZ (ha pins s σ H _ I h) λv s1 ⟨x,H1,I1,r1,q1⟩=>?_)
 obtain⟨c,rfl,q1⟩:=q1
 cases r1
 refine zCy ?_
 cases c with
 | true=>exact hb pins s1 σ H1 Q I1 q1
 | false=>exact⟨.bl false,H1,I1,rfl,q1⟩
theorem QE (ha:PE X a ta)(hb:PE X (.BoolOp .Or (b::rest) pos) tb):PE X (.BoolOp .Or (a::b::rest) pos) (Nl ta tb):=by
 intro pins s σ H Q I h
 refine BoolOp_or (aZ (ha pins s σ H _ I h) λv s1 ⟨x,H1,I1,r1,q1⟩=>?_)
 obtain⟨c,rfl,q1⟩:=q1
 cases r1
 refine zCy ?_
 cases c with
 | false=>exact hb pins s1 σ H1 Q I1 q1
 | true=>exact⟨.bl true,H1,I1,rfl,q1⟩
noncomputable def Nm (t:TT)(ta tb:TE):TE:=fun σ H Q=>t σ H λc H1=>if c=true then ta σ H1 Q else tb σ H1 Q
theorem uV {c:Expr}(hc:PT X c tA)(ha:PE X a ta)(hb:PE X b tb):PE X (.IfExp c a b pos) (Nm tA ta tb):=by
 intro pins s σ H Q I h
 refine wpAny_IfExp (aZ (hc pins s σ H _ I h) λd s1 ⟨H1,I1,q1⟩=>?_)
 cases d with
 | true=>exact ha pins s1 σ H1 Q I1 q1
 | false=>exact hb pins s1 σ H1 Q I1 q1
end
noncomputable def aD (K:zzA)(H:Hp)(a:Addr)(xs:List V):Prop:=
 Rd H a (.lst xs)\/
  ∃(o:Obj) (its:Array Value) (n:Nat),K.lookup a=some o/\o.cls=.type "list"/\o.dict=none/\o.data=.seq its n/\its.size<=sizeLine/\Vals xs its.toList
noncomputable def aJ (K:zzA)(H:Hp)(a:Addr)(xs:List V):Prop:=
 Rd H a (.tup xs)\/
  ∃(o:Obj) (its:Array Value) (n:Nat),K.lookup a=some o/\o.cls=.type "tuple"/\o.data=.seq its n/\its.size<=sizeLine/\Vals xs its.toList
def oV:Value->Option V
 | .none=>some .bq
 | .bool b=>some (.bl b)
 | .int i _=>some (.int i)
 | .str x _=>some (.str x)
 | .bytes b _=>some (.mY b)
 | .float b _=>some (.Nc b)
 | .ref a=>some (.ref a)
 | .type n=>some (.ty n)
 | _=>none
theorem RelV.abs {x:V}{u:Value}(r:RelV x u):oV u=some x:=by
 cases x with
 | bq=>cases r; rfl
 | bl _=>cases r; rfl
 | int _=>obtain⟨t,rfl⟩:=r; rfl
 | str _=>obtain⟨t,rfl⟩:=r; rfl
 | mY _=>obtain⟨t,rfl⟩:=r; rfl
 | Nc _=>obtain⟨t,rfl⟩:=r; rfl
 | ref _=>cases r; rfl
 | ty _=>cases r; rfl
theorem RelV.inj {x y:V}{u:Value}(r:RelV x u)(q:RelV y u):x=y:=zAh (r.abs.symm.trans q.abs)
theorem Vals.inj:∀{xs ys:List V} {us:List Value},Vals xs us->Vals ys us->xs=ys
 | _,_,_,.nil,.nil=>rfl
 | _,_,_,.cons r t,.cons r' t'=>by rw[r.inj r',Vals.inj t t']
section
variable {X:Cx}{pins:zzC}{σ:St}{H:Hp}{s:Shared}{a:Addr}{xs ys:List V}
theorem aD.of {K:zzA}(h:H a=some (.lst xs)):aD K H a xs:=.inl (.inl h)
theorem aJ.of {K:zzA}(h:H a=some (.tup xs)):aJ K H a xs:=.inl (.inl h)
theorem Inv.list (I:Inv X pins σ H s)(h:aD X.K H a xs):∃its:List Value,Vals xs its/\PlainL s.heap a its.toArray/\xs.length<=sizeLine:=by
 rcases h with h | ⟨o,its,n,hk,hc,hd,hs,hz,r⟩
 ·obtain⟨z,its,n,r,e⟩:=h.ok I.hok
  exact⟨its,r,⟨_,n,e,rfl,rfl,rfl⟩,z⟩
 ·refine⟨its.toList,r,⟨o,n,I.C7 a o hk,hc,hd,by simpa using hs⟩,?_⟩
  have e:=r.length
  simp only [u8] at e
  omega
theorem Inv.tuple (I:Inv X pins σ H s)(h:aJ X.K H a xs):∃its:List Value,Vals xs its/\IsTup s.heap a its.toArray/\xs.length<=sizeLine:=by
 rcases h with h | ⟨o,its,n,hk,hc,hs,hz,r⟩
 ·obtain⟨z,its,r,p⟩:=h.ok I.hok
  exact⟨its,r,p,z⟩
 ·refine⟨its.toList,r,⟨o,I.C7 a o hk,hc,n,by simpa using hs⟩,?_⟩
  have e:=r.length
  simp only [u8] at e
  omega
theorem Inv.IB (I:Inv X pins σ H s)(h:aD X.K H a xs)(h':aD X.K H a ys):xs=ys:=by
 obtain⟨its,r,⟨o,n,e,_,_,d⟩,_⟩:=I.list h
 obtain⟨its',r',⟨o',n',e',_,_,d'⟩,_⟩:=I.list h'
 rw[e] at e'; cases e'
 rw[d] at d'
 injection d' with d1 _
 have:its=its':=by simpa using zA3 Array.toList d1
 subst this
 exact r.inj r'
theorem Inv.nR (I:Inv X pins σ H s)(h:aJ X.K H a xs)(h':aJ X.K H a ys):xs=ys:=by
 obtain⟨its,r,⟨o,e,_,n,d⟩,_⟩:=I.tuple h
 obtain⟨its',r',⟨o',e',_,n',d'⟩,_⟩:=I.tuple h'
 rw[e] at e'; cases e'
 rw[d] at d'
 injection d' with d1 _
 have:its=its':=by simpa using zA3 Array.toList d1
 subst this
 exact r.inj r'
end
abbrev Cx.oW (X:Cx) (E:zzE):Cx:={ X with xe:=E }
abbrev Cx.Kf (X:Cx):Cx:=X.oW λ_ _=>False
theorem Cx.Ok.oW {X:Cx}(ok:X.Ok)(E:zzE):(X.oW E).Ok:=
 ⟨ok.mod,ok.kind,ok.glob,ok.blt,ok.above,ok.inj,ok.has,ok.FY,ok.hd,ok.frames,ok.stk,ok.Ng,ok.bs,ok.yM,ok.AA,ok.AB,ok.m6,ok.C6⟩
theorem Cx.Ok.k_ {X:Cx}{E:zzE}(ok:(X.oW E).Ok):X.Ok:=
 ⟨ok.mod,ok.kind,ok.glob,ok.blt,ok.above,ok.inj,ok.has,ok.FY,ok.hd,ok.frames,ok.stk,ok.Ng,ok.bs,ok.yM,ok.AA,ok.AB,ok.m6,ok.C6⟩
section
variable {X:Cx}{pins:zzC}{σ:St}{H:Hp}{s:Shared}{E:zzE}
theorem Inv.oW (I:Inv X pins σ H s)(E:zzE):Inv (X.oW E) pins σ H s:=⟨I.ok.oW E,I.os,I.bare,I.base,I.loc,I.cell,I.free,I.ji,I.pin,I.hok,I.len⟩
theorem Inv.k_ (I:Inv (X.oW E) pins σ H s):Inv X pins σ H s:=⟨I.ok.k_,I.os,I.bare,I.base,I.loc,I.cell,I.free,I.ji,I.pin,I.hok,I.len⟩
theorem SP.k_ {D:Ends}{f:Flow}{s':Shared}(h:SP (X.oW E) pins D f s'):SP X pins D f s':=by
 cases f with
 | next=>obtain⟨σ',H',I,q⟩:=h; exact⟨σ',H',I.k_,q⟩
 | brk=>obtain⟨σ',H',I,q⟩:=h; exact⟨σ',H',I.k_,q⟩
 | cont=>obtain⟨σ',H',I,q⟩:=h; exact⟨σ',H',I.k_,q⟩
 | ret u=>obtain⟨v,σ',H',I,r,q⟩:=h; exact⟨v,σ',H',I.k_,r,q⟩
theorem qw.Kf {st:List Stmt}{t:TS}(h:qw X.Kf st t):qw X st t:=λpins s σ H D I hw=>
 zCw (h pins s σ H D (I.oW _) hw) (λ_ _ q=>q.k_) λ_ _ z=>False.elim z
end
section
variable {X:Cx}{st:Stmt}{rest:List Stmt}{t u:TS}{e:Expr}{te:TE}{pos:Pos}
noncomputable def Eo:TS:=λD σ H=>D.nx σ H
noncomputable def iW (t u:TS):TS:=λD σ H=>t { D with nx:=u D } σ H
theorem dw:qw X [] Eo:=λ_ _ σ H _ I h=>wpAny_execs_nil ⟨σ,H,I,h⟩
theorem ak (h1:PS X st t)(h2:qw X rest u):qw X (st::rest) (iW t u):=by
 intro pins s σ H D I h
 refine wpAny_execs_cons (aZ (h1 pins s σ H { D with nx:=u D } I h) λf s1 q=>?_)
 cases f with
 | next=>
  obtain⟨σ',H',I',q⟩:=q
  exact h2 pins s1 σ' H' D I' q
 | ret v=>exact q
 | brk=>exact q
 | cont=>exact q
theorem aB (h1:PS X st t):qw X [st] t:=by
 intro pins s σ H D I h
 refine wpAny_execs_cons (aZ (h1 pins s σ H D I h) λf s1 q=>?_)
 cases f with
 | next=>exact wpAny_execs_nil q
 | ret v=>exact q
 | brk=>exact q
 | cont=>exact q
theorem Inv.quiet {pins:zzC}{σ:St}{H:Hp}{s:Shared}(I:Inv X pins σ H s):interactive X.env=false:=by simp [interactive,I.ok.kind]
noncomputable def tD (te:TE):TS:=λD σ H=>te σ H λ_ H1=>D.nx σ H1
theorem bw (he:PE X e te)(hs:swapsWith e none pos.line X.env=pure false:=by rfl):PS X (.Expr e pos) (tD te):=by
 intro pins s σ H D I h
 exact wpAny_Expr_any (aZ (he pins s σ H _ I h) λv s1 ⟨x,H1,I1,r1,q1⟩=>⟨σ,H1,I1,q1⟩) I.quiet hs
noncomputable def IC (te:TE):TS:=λD σ H=>te σ H D.rt
theorem aX (he:PE X e te):PS X (.Return (some e) pos) (IC te):=by
 intro pins s σ H D I h
 exact wpAny_Return_some (aZ (he pins s σ H _ I h) λv s1 ⟨x,H1,I1,r1,q1⟩=>⟨x,σ,H1,I1,r1,q1⟩)
noncomputable def Ep (c:TT)(t u:TS):TS:=λD σ H=>c σ H λb H1=>if b=true then t D σ H1 else u D σ H1
theorem fX {c:Expr}{a b:List Stmt}{tc:TT}(hc:PT X c tc)(ha:qw X a t)(hb:qw X b u):PS X (.If c a b pos) (Ep tc t u):=by
 intro pins s σ H D I h
 refine wpAny_If (aZ (hc pins s σ H _ I h) λd s1 ⟨H1,I1,q1⟩=>?_)
 cases d with
 | true=>exact ha pins s1 σ H1 D I1 q1
 | false=>exact hb pins s1 σ H1 D I1 q1
noncomputable def Nn:TS:=λ_ _ _=>False
theorem AK:PS X st Nn:=λ_ _ _ _ _ _ h=>h.elim
end
abbrev TG:=V->St->Hp->(St->Hp->Prop)->Prop
abbrev yO:=List V->St->Hp->(St->Hp->Prop)->Prop
noncomputable def PG (X:Cx)(target:Expr)(t:TG):Prop:=
 ∀(pins:zzC) (s:Shared) (σ:St) (H:Hp) (v:V) (u:Value) (Q:St->Hp->Prop),Inv X pins σ H s->RelV v u->t v σ H Q->
  wpAny (model X.prog X.w) X.A (assign target X.env u) (λ_ s'=>∃σ' H',Inv X pins σ' H' s'/\Q σ' H') X.xe s
noncomputable def F3 (X:Cx)(ts:List Expr)(t:yO):Prop:=
 ∀(pins:zzC) (s:Shared) (σ:St) (H:Hp) (vs:List V) (us:List Value) (Q:St->Hp->Prop),Inv X pins σ H s->Vals vs us->t vs σ H Q->
  wpAny (model X.prog X.w) X.A (assignInOrder ((assignEach ts X.env).map (·.2)) us) (λ_ s'=>∃σ' H',Inv X pins σ' H' s'/\Q σ' H') X.xe s
section
variable {X:Cx}{pos:Pos}
noncomputable def bC (i:Nat):TG:=λv σ H Q=>Q (σ.set i (some v)) H
theorem aE {i:Nat}{x:Str}(hN:X.N.Nodup)(hi:X.N[i]?=some x)(hx:Loc X.env.scope x)(hf:X.fn x=true\/X.env.scope.names.lookup x=some .local:=by first | exact .inl rfl | exact .inr rfl | assumption):PG X (.Name x pos) (bC i):=by
 intro pins s σ H v u Q I r h
 exact wpAny_assign_Name (AG I hN hi hx r (λs' I'=>⟨_,H,I',h⟩) hf)
noncomputable def ID:yO:=λvs σ H Q=>vs=[]/\Q σ H
noncomputable def vN (t:TG)(u:yO):yO:=λvs σ H Q=>∃v r,vs=v::r/\t v σ H fun σ' H'=>u r σ' H' Q
theorem o7:F3 X [] ID:=by
 intro pins s σ H vs us Q I r h
 obtain⟨e,h⟩:=h
 subst e
 cases r
 exact assignInOrder_nil ⟨σ,H,I,h⟩
theorem cL {e:Expr}{es:List Expr}{t:TG}{u:yO}(h1:PG X e t)(h2:F3 X es u)
  (hs:(assignEach (e::es) X.env).map (·.2)=assign e X.env::(assignEach es X.env).map (·.2):=by rfl):F3 X (e::es) (vN t u):=by
 intro pins s σ H vs us Q I r h
 obtain⟨v,vr,e1,h⟩:=h
 subst e1
 cases r with
 | cons r rr=>
  rw[hs]
  refine assignInOrder_cons (aZ (h1 pins s σ H _ _ _ I r h) λ_ s1 ⟨σ1,H1,I1,q1⟩=>?_)
  exact h2 pins s1 σ1 H1 _ _ Q I1 rr q1
noncomputable def Er (K:zzA)(n:Nat)(t:yO):TG:=λv σ H Q=>∃a xs,v=.ref a/\aJ K H a xs/\xs.length=n/\t xs σ H Q
theorem Np {es:List Expr}{k:Nat}{t:yO}{n:Nat}(hc:X.calm=true)(h:F3 X es t)
  (hn:(assignEach es X.env).length=n:=by rfl) (hst:(assignEach es X.env).findIdx? (·.1)=none:=by rfl):PG X (.Tuple es k pos) (Er X.K n t):=by
 intro pins s σ H v u Q I r hw
 obtain⟨a,xs,e1,hq,hl,hw⟩:=hw
 subst e1
 cases r
 obtain⟨its,rv,ht,hz⟩:=I.tuple hq
 refine assign_Tuple_tuple (I.ok.hd hc) ht (by simp [hn,←hl,rv.length]) hst λh' hx=>?_
 have I1:Inv X pins σ H { s with heap:=h' }:=I.kept (t':=s.toks) λb o e=>hx b o (zAn (kA e)) e
 exact h pins _ σ H xs _ Q I1 (by simpa using rv) hw
noncomputable def AL (te:TE)(g:TG):TS:=λD σ H=>te σ H λx H1=>g x σ H1 D.nx
theorem aN {i:Nat}{x:Str}{e:Expr}{te:TE}{pos':Pos}(hN:X.N.Nodup)(hi:X.N[i]?=some x)(hx:Loc X.env.scope x)(he:PE X e te)(hs:swapsWith e (some (.Name x pos')) pos.line X.env=pure false:=by rfl)(hf:X.fn x=true\/X.env.scope.names.lookup x=some .local:=by first | exact .inl rfl | exact .inr rfl | assumption) :
  PS X (.Assign [.Name x pos'] e pos) (AL te (bC i)):=by
 intro pins s σ H D I h
 refine wpAny_Assign_Name (aZ (he pins s σ H _ I h) λv s1 ⟨y,H1,I1,r1,q1⟩=>?_) hs
 exact AG I1 hN hi hx r1 (λs2 I2=>⟨_,H1,I2,q1⟩) hf
end
section
variable {X:Cx}{pos:Pos}
end
structure It where
 go:Nat->Hp->Prop
 Dc:Nat->Hp->V->Hp->Prop
 stop:Nat->Hp->Prop
noncomputable def iX (X:Cx)(pins:zzC)(H:Hp)(b:Addr):Prop:=
 H b=none/\b≠X.env.locals/\b∉X.fs/\(b∈X.ex\/X.s₀.heap.objs.size<=b)/\(∀x c,X.env.cells.lookup x=some c->c≠b)/\∀p∈X.pn++pins,p.1≠b
theorem Inv.uW {X:Cx}{pins:zzC}{σ:St}{H H':Hp}{s:Shared}{b:Addr}(I:Inv X pins σ H s)(hb:s.heap.objs.size<=b)(hn:H' b=none):iX X pins H' b:=by
 refine⟨hn,zCr (zAx I.lt hb),I.SS hb,.inr (zAu I.sz hb),λx c e z=>?_,λp hp z=>?_⟩
 ·obtain⟨v,q⟩:=I.cell x c e
  exact absurd (zAx q.lt (by rw[z]; exact hb)) (zB6 _)
 ·exact absurd (zAx (kA (I.pin p hp).1) (by rw[z]; exact hb)) (zB6 _)
structure Turn (P:Program)(w:World)(K:zzA)(tg:Expr)(J:It)(fp:List Addr)(it:Addr)(tn:Nat->Heap->Prop):Prop where
 mem:it∈fp
 obj:∀i h,tn i h->∀b∈fp,∃o,h.get? b=some o/\∀v,o.data≠.cell v
 keep:∀i h h',tn i h->(∀b∈fp,∀o,h.get? b=some o->h'.get? b=some o)->tn i h'
 item:∀(X:Cx),X.prog=P->X.w=w->X.K=K->X.calm=true->∀(i:Nat) (pins:zzC) (s:Shared) (σ:St) (H:Hp) (E:zzE),Inv X pins σ H s->(∀b∈fp,iX X pins H b)->tn i s.heap->J.go i H->
  wpAny (model P w) X.A (pyNext (.ref it)) (λr s1=>∃u,r=some u/\
   wpAny (model P w) X.A (letOwnedTupleGo tg (.ref it) u) (λ_ s2=>∃x H',Inv X pins σ H' s2/\RelV x u/\J.Dc i H x H'/\tn (i+1) s2.heap/\∀b∈fp,H' b=none) E s1) E s
 done:∀(X:Cx),X.prog=P->X.w=w->X.K=K->X.calm=true->∀(i:Nat) (pins:zzC) (s:Shared) (σ:St) (H:Hp) (E:zzE),Inv X pins σ H s->(∀b∈fp,iX X pins H b)->tn i s.heap->J.stop i H->
  wpAny (model P w) X.A (pyNext (.ref it)) (λr s1=>r=none/\Inv X pins σ H s1) E s
 self:∀(A:Around) (i:Nat) (s:Shared) (Q:zzE) (E:zzE),tn i s.heap->Q (.ref it) s->wpAny (model P w) A (pyIter (.ref it)) Q E s
abbrev TI:=St->Hp->(It->Hp->Prop)->Prop
noncomputable def Nq (X:Cx)(pins:zzC)(σ:St)(tg:Expr)(R:It->Hp->Prop)(itv:Value)(s2:Shared):Prop:=
 ∃(it:Addr) (fp:List Addr) (tn:Nat->Heap->Prop) (J:It) (H':Hp),itv=.ref it/\Inv X pins σ H' s2/\Turn X.prog X.w X.K tg J fp it tn/\tn 0 s2.heap/\(∀b∈fp,iX X pins H' b)/\R J H'
noncomputable def PI (X:Cx)(tg iter:Expr)(wi:TI):Prop:=
 ∀(pins:zzC) (s:Shared) (σ:St) (H:Hp) (R:It->Hp->Prop),Inv X pins σ H s->wi σ H R->
  wpAny (model X.prog X.w) X.A (eval iter X.env) (λv s1=>wpAny (model X.prog X.w) X.A (pyIter v) (Nq X pins σ tg R) X.xe s1) X.xe s
theorem vO {M:Model}{A:Around}{E:zzE}{s:Shared}{tg:Expr}{it:Addr}{u:Value}{o:Obj}{n:String}{vs:Array Value}{Q:Unit->Shared->Prop}(ho:s.heap.get? it=some o)(hc:o.cls=.type n)(hd:o.data=.fields vs)
  (hn:["enumerate","zip","dict_itemiterator","dict_reverseitemiterator","odict_iterator","itertools.zip_longest","itertools.pairwise"].contains n=false) (hQ:Q () s):wpAny M A (letOwnedTupleGo tg (.ref it) u) Q E s:=by
 unfold letOwnedTupleGo
 cases tg <;> first
  | exact y6 hQ
  | (cases u <;> first
    | exact y6 hQ
    | (refine yB (wpAny_load ho ?_); rw[hc,hd]; show wpAny M A (if (["enumerate","zip","dict_itemiterator","dict_reverseitemiterator","odict_iterator","itertools.zip_longest","itertools.pairwise"].contains n&&vs[0]? == some (rawInt _))=true then _ else _) Q E s; rw[xL (by intro h; rw[hn,Bool.false_and] at h; cases h)]; exact y6 hQ))
noncomputable def rB (K:zzA)(a:Addr):It:=
 ⟨λi H=>∃xs x,aD K H a xs/\xs[i]?=some x,λi H x H'=>H'=H/\∀xs,aD K H a xs->xs[i]?=some x,λi H=>∃xs,aD K H a xs/\xs.length<=i⟩
noncomputable def AM (K:zzA)(a:Addr):It:=
 ⟨λi H=>∃xs x,aJ K H a xs/\xs[i]?=some x,λi H x H'=>H'=H/\∀xs,aJ K H a xs->xs[i]?=some x,λi H=>∃xs,aJ K H a xs/\xs.length<=i⟩
noncomputable def qx (lo:Int)(n:Nat):It:=⟨λi _=>i < n,λi H x H'=>H'=H/\x=.int (lo+i),λi _=>n<=i⟩
theorem F4 {P:Program}{w:World}{K:zzA}{tg:Expr}(a it:Addr):Turn P w K tg (rB K a) [it] it (λi h=>h.IsListIter it a i) where
 mem:=by simp
 obj:=λi h st b hb=>by
  have e:b=it:=by simpa using hb
  subst e
  obtain⟨o,e,c,d⟩:=st
  exact⟨o,e,λv z=>by rw[d] at z; cases z⟩
 keep:=λi h h' st k=>st.at λo e=>k it (by simp) o e
 item:=by
  intro X hP hw hK hc i pins s σ H E I hf st hg
  subst hP hw hK
  obtain⟨xs,x,hq,hx⟩:=hg
  obtain⟨its,rv,p,hz⟩:=I.list hq
  obtain⟨u,hu,ru⟩:=rv.get hx
  obtain⟨f0,f1,f2,f3,f4,f5⟩:=hf it (by simp)
  refine wpAny_pyNext_list_item st p.isList (x:=u) (by simpa using hu) λh' st' sb=>?_
  have I1:Inv X pins σ H { s with heap:=h' }:=I.turned (t':=s.toks) (λb o hb e=>(sb.2 b hb).trans e) f0 f1 f3 f4 f5
  obtain⟨o,e,c,d⟩:=id st'
  exact⟨u,rfl,vO (s:={ s with heap:=h' }) e c d (by decide) ⟨x,H,I1,ru,⟨rfl,λys hy=>by rw[I.IB hy hq]; exact hx⟩,st',λb hb=>(hf b hb).1⟩⟩
 done:=by
  intro X hP hw hK hc i pins s σ H E I hf st hg
  subst hP hw hK
  obtain⟨xs,hq,hx⟩:=hg
  obtain⟨its,rv,p,hz⟩:=I.list hq
  obtain⟨f0,f1,f2,f3,f4,f5⟩:=hf it (by simp)
  have hl:=rv.length
  exact wpAny_pyNext_list_end (I.ok.hd hc) st p.isList (by simp; omega) λh' eb=>⟨rfl,I.turned (t':=s.toks) (λb o hb e=>eb b o hb e) f0 f1 f3 f4 f5⟩
 self:=λ_ _ _ _ _ st h=>wpAny_pyIter_listiter st h
theorem Es {P:Program}{w:World}{K:zzA}{tg:Expr}(a it:Addr):Turn P w K tg (AM K a) [it] it (λi h=>h.IsTupleIter it a i) where
 mem:=by simp
 obj:=λi h st b hb=>by
  have e:b=it:=by simpa using hb
  subst e
  obtain⟨o,e,c,d⟩:=st
  exact⟨o,e,λv z=>by rw[d] at z; cases z⟩
 keep:=λi h h' st k=>st.at λo e=>k it (by simp) o e
 item:=by
  intro X hP hw hK hc i pins s σ H E I hf st hg
  subst hP hw hK
  obtain⟨xs,x,hq,hx⟩:=hg
  obtain⟨its,rv,p,hz⟩:=I.tuple hq
  obtain⟨u,hu,ru⟩:=rv.get hx
  obtain⟨f0,f1,f2,f3,f4,f5⟩:=hf it (by simp)
  refine wpAny_pyNext_tuple_item st (show s.heap.IsTuple a its.toArray from p) (x:=u) (by simpa using hu) λh' st' sb=>?_
  have I1:Inv X pins σ H { s with heap:=h' }:=I.turned (t':=s.toks) (λb o hb e=>(sb.2 b hb).trans e) f0 f1 f3 f4 f5
  obtain⟨o,e,c,d⟩:=id st'
  exact⟨u,rfl,vO (s:={ s with heap:=h' }) e c d (by decide) ⟨x,H,I1,ru,⟨rfl,λys hy=>by rw[I.nR hy hq]; exact hx⟩,st',λb hb=>(hf b hb).1⟩⟩
 done:=by
  intro X hP hw hK hc i pins s σ H E I hf st hg
  subst hP hw hK
  obtain⟨xs,hq,hx⟩:=hg
  obtain⟨its,rv,p,hz⟩:=I.tuple hq
  obtain⟨f0,f1,f2,f3,f4,f5⟩:=hf it (by simp)
  have hl:=rv.length
  exact wpAny_pyNext_tuple_end (I.ok.hd hc) st (show s.heap.IsTuple a its.toArray from p) (by simp; omega) λh' eb=>⟨rfl,I.turned (t':=s.toks) (λb o hb e=>eb b o hb e) f0 f1 f3 f4 f5⟩
 self:=λ_ _ _ _ _ st h=>wpAny_pyIter_tupleiter st h
theorem Et {P:Program}{w:World}{K:zzA}{tg:Expr}(it:Addr)(lo:Int)(n:Nat):Turn P w K tg (qx lo n) [it] it (λi h=>IsRangeIter h it (lo+(i:Nat) * 1) ((n:Int) - (i:Nat)) 1) where
 mem:=by simp
 obj:=λi h st b hb=>by
  have e:b=it:=by simpa using hb
  subst e
  exact⟨_,st,λv z=>by
   have z':Data.fields _=Data.cell v:=z
   cases z'⟩
 keep:=λi h h' st k=>k it (by simp) _ st
 item:=by
  intro X hP hw hK hc i pins s σ H E I hf st hg
  subst hP hw hK
  obtain⟨f0,f1,f2,f3,f4,f5⟩:=hf it (by simp)
  have W:=Walks.range (prog:=X.prog) (w:=X.w) (I.ok.hd hc) it lo 1 n
  refine W.item i s _ _ hg st λv h' tk hv st' kk=>?_
  obtain⟨t,rfl⟩:=hv
  have I1:Inv X pins σ H { s with heap:=h',toks:=tk }:=I.turned (λb o hb e=>kk b o (by simpa using hb) e) f0 f1 f3 f4 f5
  refine⟨_,rfl,vO (s:={ s with heap:=h',toks:=tk }) (n:="range_iterator") st' rfl rfl (by decide) ⟨.int (lo+i),H,I1,⟨t,?_⟩,⟨rfl,rfl⟩,st',λb hb=>(hf b hb).1⟩⟩
  rw[Int.mul_one]
 done:=by
  intro X hP hw hK hc i pins s σ H E I hf st hg
  subst hP hw hK
  obtain⟨f0,f1,f2,f3,f4,f5⟩:=hf it (by simp)
  exact wpAny_pyNext_range_end (I.ok.hd hc) st (by have:n<=i:=hg; omega) λh' eb=>⟨rfl,I.turned (t':=s.toks) (λb o hb e=>eb b o hb e) f0 f1 f3 f4 f5⟩
 self:=λ_ _ _ _ _ st h=>wpAny_pyIter_rangeiter st h
section
variable {X:Cx}{tg:Expr}
noncomputable def jO (K:zzA)(tl:TE):TI:=fun σ H R=>tl σ H λx H1=>∃a,x=.ref a/\(∃xs,aD K H1 a xs)/\R (rB K a) H1
noncomputable def Eu (K:zzA)(tl:TE):TI:=fun σ H R=>tl σ H λx H1=>∃a,x=.ref a/\(∃xs,aJ K H1 a xs)/\R (AM K a) H1
theorem LJ {l:Expr}{tl:TE}(hl:PE X l tl):PI X tg l (jO X.K tl):=by
 intro pins s σ H R I h
 refine aZ (hl pins s σ H _ I h) λv s1 ⟨x,H1,I1,r1,q1⟩=>?_
 obtain⟨a,e,⟨xs,hq⟩,q⟩:=q1
 subst e
 cases r1
 obtain⟨its,rv,p,hz⟩:=I1.list hq
 refine wpAny_pyIter_list p.isList ?_
 refine⟨s1.heap.objs.size,[s1.heap.objs.size],_,_,H1,rfl,I1.kept (t':=s1.toks) λb o e=>y8 _ e,F4 a _,⟨_,wE _ rfl,rfl,rfl⟩,λb hb=>?_,q⟩
 have e:b=s1.heap.objs.size:=by simpa using hb
 subst e
 exact I1.uW (x3 _) (I1.hok.fresh (x3 _))
theorem Nr {l:Expr}{tl:TE}(hl:PE X l tl):PI X tg l (Eu X.K tl):=by
 intro pins s σ H R I h
 refine aZ (hl pins s σ H _ I h) λv s1 ⟨x,H1,I1,r1,q1⟩=>?_
 obtain⟨a,e,⟨xs,hq⟩,q⟩:=q1
 subst e
 cases r1
 obtain⟨its,rv,p,hz⟩:=I1.tuple hq
 refine wpAny_pyIter_tuple (show s1.heap.IsTuple a its.toArray from p) ?_
 refine⟨s1.heap.objs.size,[s1.heap.objs.size],_,_,H1,rfl,I1.kept (t':=s1.toks) λb o e=>y8 _ e,Es a _,⟨_,wE _ rfl,rfl,rfl⟩,λb hb=>?_,q⟩
 have e:b=s1.heap.objs.size:=by simpa using hb
 subst e
 exact I1.uW (x3 _) (I1.hok.fresh (x3 _))
theorem AN {pins:zzC}{σ:St}{H:Hp}{s:Shared}{R:It->Hp->Prop}{E:zzE}{lo hi:Int}{t u v:Tok}{tk:Nat}(I:Inv X pins σ H s)(h1:-(2 ^ 62)<=lo)(h2:lo < 2 ^ 62)(h3:-(2 ^ 62)<=hi)(h4:hi < 2 ^ 62)
  (q:R (qx lo (hi - lo).toNat) H):wpAny (model X.prog X.w) X.A (pyIter (.ref s.heap.objs.size)) (Nq X pins σ tg R) E { s with heap:=s.heap.push { cls:=.type "range",data:=.fields #[.int lo t,.int hi u,.int 1 v] },toks:=tk }:=by
 refine wpAny_pyIter_range (IsRange.new ..) (small_one h1 h2 h3 h4) ?_
 have I1:Inv X pins σ H { s with heap:=s.heap.push { cls:=.type "range",data:=.fields #[.int lo t,.int hi u,.int 1 v] },toks:=tk }:=I.kept λb o e=>y8 _ e
 refine⟨(s.heap.push { cls:=.type "range",data:=.fields #[.int lo t,.int hi u,.int 1 v] }).objs.size,[(s.heap.push { cls:=.type "range",data:=.fields #[.int lo t,.int hi u,.int 1 v] }).objs.size],_,_,H,rfl,
  I1.kept (t':=tk) λb o e=>y8 _ e,Et _ lo (hi - lo).toNat,?_,λb hb=>?_,q⟩
 ·have e1:lo+((0:Nat):Int) * 1=lo:=by simp
  have e2:(((hi - lo).toNat:Nat):Int) - ((0:Nat):Int)=Builtin.Range.rangeSize lo hi 1:=by rw[rangeSize_one]; split <;> omega
  show IsRangeIter _ _ (lo+((0:Nat):Int) * 1) ((((hi - lo).toNat:Nat):Int) - ((0:Nat):Int)) 1
  rw[e1,e2]
  exact wE _ rfl
 ·have e:b=(s.heap.push { cls:=.type "range",data:=.fields #[.int lo t,.int hi u,.int 1 v] }).objs.size:=by simpa using hb
  subst e
  exact I1.uW (x3 _) (I1.hok.fresh (x3 _))
noncomputable def vP (ta:TA):TI:=fun σ H R=>ta σ H λvs H1=>∃j:Int,vs=[.int j]/\-(2 ^ 62)<=j/\j < 2 ^ 62/\R (qx 0 j.toNat) H1
noncomputable def Ew (ta:TA):TI:=fun σ H R=>ta σ H λvs H1=>∃i j:Int,vs=[.int i,.int j]/\(-(2 ^ 62)<=i/\i < 2 ^ 62/\-(2 ^ 62)<=j/\j < 2 ^ 62)/\R (qx i (j - i).toNat) H1
theorem bK {a:Expr}{ta:TA}{p pos:Pos}(hg:Gl X "range")(hm:X.mg "range"=none)(ha:PA X [a] ta)(hs:starEach [a] X.env=[(false,eval a X.env)]:=by rfl):PI X tg (.Call (.Name "range" p) [a] [] pos) (vP ta):=by
 intro pins s σ H R I h
 refine Call_ (o6 I hg hm boot_range (zCz (aZ (ha pos pins s σ H _ I h) λus s1 ⟨vs,H1,I1,r1,q1⟩=>?_) hs rfl))
 obtain⟨j,e,q1,q2,q⟩:=q1
 subst e
 cases r1 with
 | cons r rr=>
  cases rr
  obtain⟨t,rfl⟩:=r
  exact call_range_1 (AN I1 (by omega) (by omega) q1 q2 (by simpa using q))
theorem rC {a b:Expr}{ta:TA}{p pos:Pos}(hg:Gl X "range")(hm:X.mg "range"=none)(ha:PA X [a,b] ta)(hs:starEach [a,b] X.env=[(false,eval a X.env),(false,eval b X.env)]:=by rfl)(hs2:starEach [b] X.env=[(false,eval b X.env)]:=by rfl) :
  PI X tg (.Call (.Name "range" p) [a,b] [] pos) (Ew ta):=by
 intro pins s σ H R I h
 refine Call_ (o6 I hg hm boot_range (zCz (aZ (ha pos pins s σ H _ I h) λus s1 ⟨vs,H1,I1,r1,q1⟩=>?_) (by rw[hs,hs2]) (by rw[hs2]; rfl)))
 obtain⟨i,j,e,⟨q1,q2,q3,q4⟩,q⟩:=q1
 subst e
 cases r1 with
 | cons r rr=>
  cases rr with
  | cons r' rr=>
   cases rr
   obtain⟨t,rfl⟩:=r
   obtain⟨t',rfl⟩:=r'
   exact call_range_2 (AN I1 q1 q2 q3 q4 q)
noncomputable def oX (wi:TI)(g:TG)(tb:TS):TS:=λD σ H=>wi σ H λJ H1=>∃W:Nat->Nat->St->Hp->Prop,(∃m,W 0 m σ H1)/\∀i m σ H,W i m σ H->
 (J.stop i H/\D.nx σ H)\/(J.go i H/\∃N:St->Hp->Prop,(∀σ' H',N σ' H'->∃m',m' < m/\W (i+1) m' σ' H')/\∀x H',J.Dc i H x H'->g x σ H' fun σ2 H2=>tb { D with nx:=N,ct:=N,bk:=D.nx } σ2 H2)
noncomputable def o8 (fp:List Addr)(h:Heap):zzC:=fp.filterMap λb=>(h.get? b).map λo=>(b,o)
theorem qe {fp:List Addr}{h:Heap}{b:Addr}{o:Obj}(hb:b∈fp)(e:h.get? b=some o):(b,o)∈o8 fp h:=List.mem_filterMap.mpr ⟨b,hb,by rw[e]; rfl⟩
theorem F5 {fp:List Addr}{h:Heap}{p:Addr × Obj}(hp:p∈o8 fp h):p.1∈fp/\h.get? p.1=some p.2:=by
 obtain⟨b,hb,e⟩:=List.mem_filterMap.mp hp
 cases q:h.get? b with
 | none=>rw[q] at e; cases e
 | some o=>
  rw[q] at e
  have e':(b,o)=p:=zAh e
  subst e'
  exact⟨hb,q⟩
theorem Inv.pinned {pins:zzC}{σ:St}{H:Hp}{s:Shared}{fp:List Addr}(I:Inv X pins σ H s)(hf:∀b∈fp,iX X pins H b)(ho:∀b∈fp,∃o,s.heap.get? b=some o/\∀v,o.data≠.cell v):Inv X (pins++o8 fp s.heap) σ H s:=
 I.C9 λp hp=>(wT.mp hp).elim (λz=>I.pin p (zBm _ z)) λz=>by
  obtain⟨hb,e⟩:=F5 z
  obtain⟨f0,f1,f2,_⟩:=hf p.1 hb
  obtain⟨o,e',d⟩:=ho p.1 hb
  rw[e] at e'; cases e'
  exact⟨e,f0,f1,f2,d⟩
theorem Inv.uX {pins pl:zzC}{σ:St}{H:Hp}{s:Shared}(I:Inv X (pins++pl) σ H s):Inv X pins σ H s:=I.C9 λp hp=>I.pin p (zBm _ (zCv _ hp))
theorem b_ {iter:Expr}{body:List Stmt}{wi:TI}{g:TG}{tb:TS}{pos:Pos}(hp:PassesOwn (model X.prog X.w) X.A X.env X.xe)(hc:X.calm=true)(hi:PI X tg iter wi)(hg:PG X tg g)(hb:qw X body tb)
  (hs:∀x,foldedSetIterable iter X.env x=pure x:=by intro _; rfl):PS X (.For tg iter body [] pos) (oX wi g tb):=by
 intro pins s σ H D I h
 refine wpAny_For (aZ (hi pins s σ H _ I h) λv s1 h1=>aZ h1 λitv s2 h2=>?_) hs
 obtain⟨it,fp,tn,J,H2,e,I2,T,st2,f2,W,⟨m0,w0⟩,turn⟩:=h2
 subst e
 have stat:∀{H':Hp},(∀b∈fp,H' b=none)->∀b∈fp,iX X pins H' b:=λhn b hb=>⟨hn b hb,(f2 b hb).2⟩
 refine codeAny_forLoop_any (λn s'=>∃i σ' H',Inv X pins σ' H' s'/\tn i s'.heap/\(∀b∈fp,H' b=none)/\W i n σ' H') ?_ m0 ⟨0,σ,H2,I2,st2,λb hb=>(f2 b hb).1,w0⟩
 rintro n s3 ⟨i,σ3,H3,I3,st3,Ru,w3⟩
 rcases turn i n σ3 H3 w3 with ⟨stop,qn⟩ | ⟨go,N,hN,step⟩
 ·refine wpAny_passesOwn hp (aZ (T.done X rfl rfl rfl hc i pins s3 σ3 H3 X.xe I3 (stat Ru) st3 stop) λr s4 ⟨hr,I4⟩=>?_)
  subst hr
  exact wpAny_execs_nil ⟨σ3,H3,I4,qn⟩
 ·refine wpAny_passesOwn hp (aZ (T.item X rfl rfl rfl hc i pins s3 σ3 H3 X.xe I3 (stat Ru) st3 go) λr s4 ⟨u,hr,h4⟩=>?_)
  subst hr
  refine wpAny_passesOwn hp (aZ h4 λ_ s5 ⟨x,H5,I5,r5,y5,Dd,Kg⟩=>?_)
  have Um:=I5.pinned (stat Kg) (T.obj _ _ Dd)
  refine wpAny_passesOwn hp (aZ (hg _ s5 σ3 H5 x u _ Um r5 (step x H5 y5)) λ_ s6 ⟨σ6,H6,I6,q6⟩=>?_)
  refine wpAny_passesOwn hp (aZ (hb _ s6 σ6 H6 _ I6 q6) λf s7 q7=>?_)
  have again:∀{σ7:St} {H7:Hp},Inv X (pins++o8 fp s5.heap) σ7 H7 s7->N σ7 H7->∃m,m < n/\∃i σ' H',Inv X pins σ' H' s7/\tn i s7.heap/\(∀b∈fp,H' b=none)/\W i m σ' H':=λ{σ7 H7} I7 n7=>by
   obtain⟨m',hm,w7⟩:=hN σ7 H7 n7
   refine⟨m',hm,i+1,σ7,H7,I7.uX,T.keep _ _ _ Dd λb hb o e=>(I7.pin (b,o) (zBm _ (zBm _ (qe hb e)))).1,λb hb=>?_,w7⟩
   obtain⟨o,e,d⟩:=T.obj _ _ Dd b hb
   exact (I7.pin (b,o) (zBm _ (zBm _ (qe hb e)))).2.1
  cases f with
  | next=>obtain⟨σ7,H7,I7,n7⟩:=q7; exact again I7 n7
  | cont=>obtain⟨σ7,H7,I7,n7⟩:=q7; exact again I7 n7
  | brk=>obtain⟨σ7,H7,I7,q7⟩:=q7; exact⟨σ7,H7,I7.uX,q7⟩
  | ret v=>obtain⟨x7,σ7,H7,I7,r7,q7⟩:=q7; exact⟨x7,σ7,H7,I7.uX,r7,q7⟩
end
theorem AO {K:zzA}{a:Addr}{xs:List V}{g:TG}{tb:TS}{D:Ends}{σ:St}{H:Hp}(Pv:Nat->St->Hp->Prop)(h0:Pv 0 σ H)(hl:∀i σ H,i<=xs.length->Pv i σ H->aD K H a xs)
  (hs:∀i x σ H,xs[i]?=some x->Pv i σ H->g x σ H fun σ2 H2=>tb { D with nx:=Pv (i+1),ct:=Pv (i+1),bk:=D.nx } σ2 H2) (hd:∀σ H,Pv xs.length σ H->D.nx σ H) :
  ∃W:Nat->Nat->St->Hp->Prop,(∃m,W 0 m σ H)/\∀i m σ H,W i m σ H->
   ((rB K a).stop i H/\D.nx σ H)\/((rB K a).go i H/\∃N:St->Hp->Prop,(∀σ' H',N σ' H'->∃m',m' < m/\W (i+1) m' σ' H')/\∀x H',(rB K a).Dc i H x H'->g x σ H' fun σ2 H2=>tb { D with nx:=N,ct:=N,bk:=D.nx } σ2 H2):=by
 refine⟨λi m σ H=>m=xs.length - i/\i<=xs.length/\Pv i σ H,⟨xs.length,by simp,zAw _,h0⟩,?_⟩
 rintro i m σ H ⟨rfl,hi,p⟩
 have q:=hl i σ H hi p
 by_cases hlt:i < xs.length
 ·refine .inr ⟨⟨xs,xs[i],q,by simp [hlt]⟩,Pv (i+1),fun σ' H' p'=>⟨xs.length - (i+1),by omega,rfl,hlt,p'⟩,λx H' y=>?_⟩
  obtain⟨e,y⟩:=y
  subst e
  exact hs i x σ _ (y xs q) p
 ·have e:i=xs.length:=by omega
  subst e
  exact .inl ⟨⟨xs,q,x3 _⟩,hd σ H p⟩
theorem LK {K:zzA}{a:Addr}{xs:List V}{g:TG}{tb:TS}{D:Ends}{σ:St}{H:Hp}(Pv:Nat->St->Hp->Prop)(h0:Pv 0 σ H)(hl:∀i σ H,i<=xs.length->Pv i σ H->aJ K H a xs)
  (hs:∀i x σ H,xs[i]?=some x->Pv i σ H->g x σ H fun σ2 H2=>tb { D with nx:=Pv (i+1),ct:=Pv (i+1),bk:=D.nx } σ2 H2) (hd:∀σ H,Pv xs.length σ H->D.nx σ H) :
  ∃W:Nat->Nat->St->Hp->Prop,(∃m,W 0 m σ H)/\∀i m σ H,W i m σ H->
   ((AM K a).stop i H/\D.nx σ H)\/((AM K a).go i H/\∃N:St->Hp->Prop,(∀σ' H',N σ' H'->∃m',m' < m/\W (i+1) m' σ' H')/\∀x H',(AM K a).Dc i H x H'->g x σ H' fun σ2 H2=>tb { D with nx:=N,ct:=N,bk:=D.nx } σ2 H2):=by
 refine⟨λi m σ H=>m=xs.length - i/\i<=xs.length/\Pv i σ H,⟨xs.length,by simp,zAw _,h0⟩,?_⟩
 rintro i m σ H ⟨rfl,hi,p⟩
 have q:=hl i σ H hi p
 by_cases hlt:i < xs.length
 ·refine .inr ⟨⟨xs,xs[i],q,by simp [hlt]⟩,Pv (i+1),fun σ' H' p'=>⟨xs.length - (i+1),by omega,rfl,hlt,p'⟩,λx H' y=>?_⟩
  obtain⟨e,y⟩:=y
  subst e
  exact hs i x σ _ (y xs q) p
 ·have e:i=xs.length:=by omega
  subst e
  exact .inl ⟨⟨xs,q,x3 _⟩,hd σ H p⟩
theorem yQ {lo:Int}{n:Nat}{g:TG}{tb:TS}{D:Ends}{σ:St}{H:Hp}(Pv:Nat->St->Hp->Prop)(h0:Pv 0 σ H)
  (hs:∀i σ H,i < n->Pv i σ H->g (.int (lo+i)) σ H fun σ2 H2=>tb { D with nx:=Pv (i+1),ct:=Pv (i+1),bk:=D.nx } σ2 H2) (hd:∀σ H,Pv n σ H->D.nx σ H) :
  ∃W:Nat->Nat->St->Hp->Prop,(∃m,W 0 m σ H)/\∀i m σ H,W i m σ H->
   ((qx lo n).stop i H/\D.nx σ H)\/((qx lo n).go i H/\∃N:St->Hp->Prop,(∀σ' H',N σ' H'->∃m',m' < m/\W (i+1) m' σ' H')/\∀x H',(qx lo n).Dc i H x H'->g x σ H' fun σ2 H2=>tb { D with nx:=N,ct:=N,bk:=D.nx } σ2 H2):=by
 refine⟨λi m σ H=>m=n - i/\i<=n/\Pv i σ H,⟨n,by simp,zAw _,h0⟩,?_⟩
 rintro i m σ H ⟨rfl,hi,p⟩
 by_cases hlt:i < n
 ·refine .inr ⟨hlt,Pv (i+1),fun σ' H' p'=>⟨n - (i+1),by omega,rfl,hlt,p'⟩,λx H' y=>?_⟩
  obtain⟨e,y⟩:=y
  subst e y
  exact hs i σ _ hlt p
 ·have e:i=n:=by omega
  subst e
  exact .inl ⟨x3 _,hd σ H p⟩
abbrev R2:=V->V->Hp->VK->Prop
noncomputable def dz (X:Cx)(f:Value->Value->Sem Value)(r:R2):Prop:=
 ∀(pins:zzC) (s:Shared) (σ:St) (H:Hp) (x y:V) (v u:Value) (Q:VK),Inv X pins σ H s->RelV x v->RelV y u->r x y H Q->
  wpAny (model X.prog X.w) X.A (f v u) (EP X pins σ Q) X.xe s
noncomputable def Nt (X:Cx)(f:Value->Sem Value)(r:V->Hp->VK->Prop):Prop:=
 ∀(pins:zzC) (s:Shared) (σ:St) (H:Hp) (x:V) (v:Value) (Q:VK),Inv X pins σ H s->RelV x v->r x H Q->
  wpAny (model X.prog X.w) X.A (f v) (EP X pins σ Q) X.xe s
noncomputable def dg (X:Cx)(f:Value)(r:List V->Hp->VK->Prop):Prop:=
 ∀(pins:zzC) (s:Shared) (σ:St) (H:Hp) (xs:List V) (us:List Value) (Q:VK),Inv X pins σ H s->Vals xs us->r xs H Q->
  wpAny (model X.prog X.w) X.A (call f us) (EP X pins σ Q) X.xe s
noncomputable def SX (X:Cx)(r:V->Hp->(Bool->Hp->Prop)->Prop):Prop:=
 ∀(pins:zzC) (s:Shared) (σ:St) (H:Hp) (x:V) (v:Value) (Q:Bool->Hp->Prop),Inv X pins σ H s->RelV x v->r x H Q->
  wpAny (model X.prog X.w) X.A (truthy v) (TP X pins σ Q) X.xe s
noncomputable def di (r:R2)(ta tb:TE):TE:=fun σ H Q=>ta σ H λx H1=>tb σ H1 λy H2=>r x y H2 Q
noncomputable def AQ (r:V->Hp->VK->Prop)(ta:TE):TE:=fun σ H Q=>ta σ H λx H1=>r x H1 Q
noncomputable def rI (C:Int->Int->Prop)(g:Int->Int->V):R2:=λx y H Q=>∃i j,x=.int i/\y=.int j/\C i j/\Q (g i j) H
noncomputable def qy (g:Int->Int->V):R2:=λx y H Q=>∃i j,x=.int i/\y=.int j/\Q (g i j) H
noncomputable def rU (g:Int->V):V->Hp->VK->Prop:=λx H Q=>∃i,x=.int i/\Q (g i) H
section
variable {X:Cx}{a b c:Expr}{ta tb tc:TE}{pos:Pos}
theorem IE (ha:PE X a ta)(hb:PE X b tb){pins:zzC}{s:Shared}{σ:St}{H:Hp}{R:V->V->Hp->Prop}(I:Inv X pins σ H s)
  (h:ta σ H λx H1=>tb σ H1 λy H2=>R x y H2) {Q:zzE} {f:Value->Value->Sem Value}
  (hf:∀v u s2 x y H2,Inv X pins σ H2 s2->RelV x v->RelV y u->R x y H2->wpAny (model X.prog X.w) X.A (f v u) Q X.xe s2) :
  wpAny (model X.prog X.w) X.A (eval a X.env) (λv s₁=>wpAny (model X.prog X.w) X.A (eval b X.env) (λu s₂=>wpAny (model X.prog X.w) X.A (f v u) Q X.xe s₂) X.xe s₁) X.xe s:=by
 refine aZ (ha pins s σ H _ I h) λv s1 ⟨x,H1,I1,r1,q1⟩=>?_
 refine aZ (hb pins s1 σ H1 _ I1 q1) λu s2 ⟨y,H2,I2,r2,q2⟩=>?_
 exact hf v u s2 x y H2 I2 r1 r2 q2
theorem av {op:Operator}{r:R2}(ho:dz X (binaryOp op) r)(ha:PE X a ta)(hb:PE X b tb):PE X (.BinOp a op b pos) (di r ta tb):=by
 intro pins s σ H Q I h
 exact wpAny_BinOp (IE ha hb I h λv u s2 x y H2 I2 rx ry q=>ho pins s2 σ H2 x y v u Q I2 rx ry q)
theorem fH {op:UnaryOp}{r:V->Hp->VK->Prop}(ho:Nt X (unaryOp op) r)(ha:PE X a ta):PE X (.UnaryOp op a pos) (AQ r ta):=by
 intro pins s σ H Q I h
 exact UnaryOp_ (aZ (ha pins s σ H _ I h) λv s1 ⟨x,H1,I1,r1,q1⟩=>ho pins s1 σ H1 x v Q I1 r1 q1)
theorem Nu {f:Value->Value->Sem Value}{C:Int->Int->Prop}{g:Int->Int->Int}
  (rule:∀(i j:Int) (t u:Tok) (s:Shared) (Q:zzE) (E:zzE),C i j->Q (.int (g i j) s.toks) { s with toks:=s.toks+1 }->wpAny (model X.prog X.w) X.A (f (.int i t) (.int j u)) Q E s) :
  dz X f (rI C λi j=>.int (g i j)):=by
 intro pins s σ H x y v u Q I rx ry h
 obtain⟨i,j,rfl,rfl,hc,q⟩:=h
 obtain⟨t,rfl⟩:=rx
 obtain⟨t',rfl⟩:=ry
 exact rule i j t t' s _ _ hc ⟨.int (g i j),H,I.tok _,⟨_,rfl⟩,q⟩
theorem Nv {f:Value->Value->Sem Value}{g:Int->Int->Int}
  (rule:∀(i j:Int) (t u:Tok) (s:Shared) (Q:zzE) (E:zzE),Q (.int (g i j) s.toks) { s with toks:=s.toks+1 }->wpAny (model X.prog X.w) X.A (f (.int i t) (.int j u)) Q E s) :
  dz X f (qy λi j=>.int (g i j)):=by
 intro pins s σ H x y v u Q I rx ry h
 obtain⟨i,j,rfl,rfl,q⟩:=h
 obtain⟨t,rfl⟩:=rx
 obtain⟨t',rfl⟩:=ry
 exact rule i j t t' s _ _ ⟨.int (g i j),H,I.tok _,⟨_,rfl⟩,q⟩
theorem IF {f:Value->Value->Sem Value}{g:Int->Int->Bool}
  (rule:∀(i j:Int) (t u:Tok) (s:Shared) (Q:zzE) (E:zzE),Q (.bool (g i j)) s->wpAny (model X.prog X.w) X.A (f (.int i t) (.int j u)) Q E s) :
  dz X f (qy λi j=>.bl (g i j)):=by
 intro pins s σ H x y v u Q I rx ry h
 obtain⟨i,j,rfl,rfl,q⟩:=h
 obtain⟨t,rfl⟩:=rx
 obtain⟨t',rfl⟩:=ry
 exact rule i j t t' s _ _ ⟨.bl (g i j),H,I,rfl,q⟩
noncomputable def SY (i j:Int):Prop:=0 < j/\j < 1073741824
noncomputable def IG (i j:Int):Prop:=(-(2 ^ 64) < i/\i < 2 ^ 64)\/(-(2 ^ 64) < j/\j < 2 ^ 64)
theorem IG.ok {i j:Int}(h:IG i j):IntMulOk i j:=by
 rcases h with ⟨h1,h2⟩ | ⟨h1,h2⟩
 ·exact .of_left (intBits_le_64 h1 h2)
 ·exact .of_right (intBits_le_64 h1 h2)
theorem aP:dz X (binaryOp .Add) (qy λi j=>.int (i+j)):=Nv λ_ _ _ _ _ _ _ q=>add_int q
theorem rD:dz X (binaryOp .Sub) (qy λi j=>.int (i - j)):=Nv λ_ _ _ _ _ _ _ q=>sub_int q
theorem gk:dz X (binaryOp .Mult) (rI IG λi j=>.int (i * j)):=Nu λ_ _ _ _ _ _ _ hc q=>mul_int q hc.ok
theorem gI:dz X (binaryOp .FloorDiv) (rI SY λi j=>.int (i / j)):=Nu λi j _ _ _ _ _ hc q=>by
 have h1:(0:Int) < j:=hc.1
 have h2:j < 1073741824:=hc.2
 exact floordiv_int (by omega) (by rw[Int.fdiv_eq_ediv_of_nonneg i (by omega)]; exact q) (.inl (PyProof.noPylong_small (by omega)))
theorem cy:dz X (binaryOp .Mod) (rI (λ_ j=>0 < j) λi j=>.int (i % j)):=Nu λi j _ _ _ _ _ hc q=>by
 have h1:(0:Int) < j:=hc
 exact mod_int' (by omega) (by rw[Int.fmod_eq_emod_of_nonneg i (by omega)]; exact q)
theorem Uo {f:Value->Sem Value}{g:Int->Int}
  (rule:∀(i:Int) (t:Tok) (s:Shared) (Q:zzE) (E:zzE),Q (.int (g i) s.toks) { s with toks:=s.toks+1 }->wpAny (model X.prog X.w) X.A (f (.int i t)) Q E s) :
  Nt X f (rU λi=>.int (g i)):=by
 intro pins s σ H x v Q I rx h
 obtain⟨i,rfl,q⟩:=h
 obtain⟨t,rfl⟩:=rx
 exact rule i t s _ _ ⟨.int (g i),H,I.tok _,⟨_,rfl⟩,q⟩
theorem dH:Nt X (unaryOp .USub) (rU λi=>.int (-i)):=Uo λ_ _ _ _ _ q=>neg_int q
end
noncomputable def AR:V->V->Bool
 | .bq,.bq=>true | .bq,.int _=>true | .int _,.bq=>true | .bq,.bl _=>true | .bl _,.bq=>true | .bq,.str _=>true | .str _,.bq=>true
 | .int _,.int _=>true | .bl _,.bl _=>true | .str _,.str _=>true | .mY _,.mY _=>true
 | .int _,.str _=>true | .str _,.int _=>true | .bl _,.str _=>true | .str _,.bl _=>true
 | _,_=>false
noncomputable def Nx:R2:=λx y H Q=>AR x y=true/\Q (.bl (decide (x=y))) H
noncomputable def Rv:R2:=λx y H Q=>AR x y=true/\Q (.bl (!decide (x=y))) H
theorem De {i j:Int}:decide (V.int i=V.int j)=(i == j):=by
 rw[zCe]
 simp
theorem F6 {i j:Bool}:decide (V.bl i=V.bl j)=(i == j):=by
 rw[zCe]
 simp
theorem Df {i j:Str}:decide (V.str i=V.str j)=(i == j):=by
 rw[zCe]
 simp
theorem Dg {i j:Array UInt8}:decide (V.mY i=V.mY j)=(i.toList == j.toList):=by
 rw[zCe]
 cases i
 cases j
 simp
section
variable {X:Cx}{a b c:Expr}{ta tb tc:TE}{pos:Pos}
theorem bB {pins:zzC}{σ:St}{H:Hp}{s:Shared}{Q:VK}{k k':Bool}(I:Inv X pins σ H s)(q:Q (.bl k) H)(e:k=k'):EP X pins σ Q (.bool k') s:=by
 subst e
 exact⟨.bl k,H,I,rfl,q⟩
theorem jP:dz X (compareOp .Eq) Nx:=by
 intro pins s σ H x y v u Q I rx ry h
 obtain⟨hs,q⟩:=h
 cases x with
 | bq=>
  cases rx
  cases y with
  | bq=>cases ry; exact PySem.EqNone.eq_none_none (bB I q (by simp))
  | bl j=>cases ry; exact PySem.EqNone.eq_none_bool (bB I q (by simp))
  | int j=>obtain⟨t',rfl⟩:=ry; exact PySem.EqNone.eq_none_int (bB I q (by simp))
  | str j=>obtain⟨t',rfl⟩:=ry; exact PySem.EqNone.eq_none_str (bB I q (by simp))
  | _=>exact absurd (show false=true from hs) zAf
 | bl i=>
  cases rx
  cases y with
  | bq=>cases ry; exact PySem.EqNone.eq_bool_none (bB I q (by simp))
  | bl j=>cases ry; exact eq_bool (bB I q F6)
  | str j=>obtain⟨t',rfl⟩:=ry; exact PySem.EqMixed.eq_bool_str (bB I q (by simp))
  | _=>exact absurd (show false=true from hs) zAf
 | int i=>
  obtain⟨t,rfl⟩:=rx
  cases y with
  | bq=>cases ry; exact PySem.EqNone.eq_int_none (bB I q (by simp))
  | int j=>obtain⟨t',rfl⟩:=ry; exact eq_int (bB I q De)
  | str j=>obtain⟨t',rfl⟩:=ry; exact PySem.EqMixed.eq_int_str (bB I q (by simp))
  | _=>exact absurd (show false=true from hs) zAf
 | str i=>
  obtain⟨t,rfl⟩:=rx
  cases y with
  | bq=>cases ry; exact PySem.EqNone.eq_str_none (bB I q (by simp))
  | bl j=>cases ry; exact PySem.EqMixed.eq_str_bool (bB I q (by simp))
  | int j=>obtain⟨t',rfl⟩:=ry; exact PySem.EqMixed.eq_str_int (bB I q (by simp))
  | str j=>obtain⟨t',rfl⟩:=ry; exact eq_str (bB I q Df)
  | _=>exact absurd (show false=true from hs) zAf
 | mY i=>
  obtain⟨t,rfl⟩:=rx
  cases y with
  | mY j=>obtain⟨t',rfl⟩:=ry; exact PySem.W.eq_bytes (bB I q Dg)
  | _=>exact absurd (show false=true from hs) zAf
 | _=>cases y <;> exact absurd (show false=true from hs) zAf
theorem QF:dz X (compareOp .NotEq) Rv:=by
 intro pins s σ H x y v u Q I rx ry h
 obtain⟨hs,q⟩:=h
 cases x with
 | bq=>
  cases rx
  cases y with
  | bq=>cases ry; exact PySem.EqNone.ne_none_none (bB I q (by simp))
  | bl j=>cases ry; exact PySem.EqNone.ne_none_bool (bB I q (by simp))
  | int j=>obtain⟨t',rfl⟩:=ry; exact PySem.EqNone.ne_none_int (bB I q (by simp))
  | str j=>obtain⟨t',rfl⟩:=ry; exact PySem.EqNone.ne_none_str (bB I q (by simp))
  | _=>exact absurd (show false=true from hs) zAf
 | bl i=>
  cases rx
  cases y with
  | bq=>cases ry; exact PySem.EqNone.ne_bool_none (bB I q (by simp))
  | bl j=>cases ry; exact ne_bool (bB I q (zA3 not F6))
  | str j=>obtain⟨t',rfl⟩:=ry; exact PySem.EqMixed.ne_bool_str (bB I q (by simp))
  | _=>exact absurd (show false=true from hs) zAf
 | int i=>
  obtain⟨t,rfl⟩:=rx
  cases y with
  | bq=>cases ry; exact PySem.EqNone.ne_int_none (bB I q (by simp))
  | int j=>obtain⟨t',rfl⟩:=ry; exact ne_int (bB I q (zA3 not De))
  | str j=>obtain⟨t',rfl⟩:=ry; exact PySem.EqMixed.ne_int_str (bB I q (by simp))
  | _=>exact absurd (show false=true from hs) zAf
 | str i=>
  obtain⟨t,rfl⟩:=rx
  cases y with
  | bq=>cases ry; exact PySem.EqNone.ne_str_none (bB I q (by simp))
  | bl j=>cases ry; exact PySem.EqMixed.ne_str_bool (bB I q (by simp))
  | int j=>obtain⟨t',rfl⟩:=ry; exact PySem.EqMixed.ne_str_int (bB I q (by simp))
  | str j=>obtain⟨t',rfl⟩:=ry; exact ne_str (bB I q (zA3 not Df))
  | _=>exact absurd (show false=true from hs) zAf
 | mY i=>
  obtain⟨t,rfl⟩:=rx
  cases y with
  | mY j=>obtain⟨t',rfl⟩:=ry; exact PySem.W.ne_bytes (bB I q (zA3 not Dg))
  | _=>exact absurd (show false=true from hs) zAf
 | _=>cases y <;> exact absurd (show false=true from hs) zAf
theorem Ey:dz X (compareOp .Lt) (qy λi j=>.bl (decide (i < j))):=IF λ_ _ _ _ _ _ _ q=>lt_int q
theorem QG:dz X (compareOp .LtE) (qy λi j=>.bl (decide (i<=j))):=IF λ_ _ _ _ _ _ _ q=>le_int q
theorem Kh:dz X (compareOp .Gt) (qy λi j=>.bl (decide (j < i))):=IF λ_ _ _ _ _ _ _ q=>gt_int q
theorem F7:dz X (compareOp .In) (λx y H Q=>∃i j,x=.str i/\y=.str j/\Q (.bl (!(Builtin.Str.occurrences j i 0 j.length 1).isEmpty)) H):=by
 intro pins s σ H x y v u Q I rx ry h
 obtain⟨i,j,rfl,rfl,q⟩:=h
 obtain⟨t,rfl⟩:=rx
 obtain⟨t',rfl⟩:=ry
 exact in_str (bB I q rfl)
theorem cj (b:Expr){op:CmpOp}(h:op≠.In:=by decide)(h2:op≠.NotIn:=by decide):behindInMarks op b=false:=by
 have e1:(op == CmpOp.In)=false:=by cases op <;> first | rfl | exact absurd rfl h
 have e2:(op == CmpOp.NotIn)=false:=by cases op <;> first | rfl | exact absurd rfl h2
 cases b <;> simp [behindInMarks,e1,e2]
theorem iE {op:CmpOp}{r:R2}(ho:dz X (compareOp op) r)(ha:PE X a ta)(hb:PE X b tb)(hm:behindInMarks op b=false):PE X (.Compare a [op] [b] pos) (di r ta tb):=by
 intro pins s σ H Q I h
 exact wpAny_Compare1 (IE ha hb I h λv u s2 x y H2 I2 rx ry q=>ho pins s2 σ H2 x y v u Q I2 rx ry q) hm
noncomputable def Kl (t:TE):TT:=fun σ H Q=>t σ H λx H'=>∃k,x=.bl k/\Q k H'
theorem cG {op:CmpOp}{r:R2}(ho:dz X (compareOp op) r)(ha:PE X a ta)(hb:PE X b tb)(hm:behindInMarks op b=false):PT X (.Compare a [op] [b] pos) (Kl (di r ta tb)):=by
 intro pins s σ H Q I h
 refine wpAny_isTrue_Compare1 (aZ (ha pins s σ H _ I h) λv s1 ⟨x,H1,I1,r1,q1⟩=>aZ (hb pins s1 σ H1 _ I1 q1) λu s2 ⟨y,H2,I2,r2,q2⟩=>
  aZ (ho pins s2 σ H2 x y v u _ I2 r1 r2 q2) λc s3 ⟨z,H3,I3,r3,k,e,q3⟩=>?_) hm
 subst e
 cases r3
 exact zCy ⟨H3,I3,q3⟩
noncomputable def F8 (r r':R2)(ta tb tc:TE):TE:=fun σ H Q=>ta σ H λx H1=>tb σ H1 λy H2=>r x y H2 λz H3=>∃k,z=.bl k/\
 (if k=true then tc σ H3 λw' H4=>r' y w' H4 Q else Q (.bl false) H3)
theorem II {op op':CmpOp}{r r':R2}(ho:dz X (compareOp op) r)(ho':dz X (compareOp op') r')(ha:PE X a ta)(hb:PE X b tb)(hc:PE X c tc)
  (hm:lastMarks [op,op'] [b,c]=false:=by with_unfolding_all rfl):PE X (.Compare a [op,op'] [b,c] pos) (F8 r r' ta tb tc):=by
 intro pins s σ H Q I h
 refine Compare_chain (aZ (ha pins s σ H _ I h) λv s1 ⟨x,H1,I1,r1,q1⟩=>chain_link (aZ (hb pins s1 σ H1 _ I1 q1) λu s2 ⟨y,H2,I2,r2,q2⟩=>
  aZ (ho pins s2 σ H2 x y v u _ I2 r1 r2 q2) λd s3 ⟨z,H3,I3,r3,k,e,q3⟩=>?_)) hm
 subst e
 cases r3
 refine zCy ?_
 cases k with
 | false=>exact ite_ff ⟨.bl false,H3,I3,rfl,q3⟩
 | true=>exact ite_tt (chain_last (aZ (hc pins s3 σ H3 _ I3 q3) λw' s4 ⟨z',H4,I4,r4,q4⟩=>ho' pins s4 σ H4 y z' u w' Q I4 r2 r4 q4))
noncomputable def xH (K:zzA)(x:V)(H:Hp)(k:Bool):Prop:=
 match x with
 | .bq=>k=false
 | .bl b=>k=b
 | .int i=>k=(i != 0)
 | .str y=>y.length<=sizeLine/\k=((y.length:Int) != 0)
 | .mY y=>y.size<=sizeLine/\k=((y.size:Int) != 0)
 | .ref p=>(∃xs,aD K H p xs/\k=!xs.isEmpty)\/(∃xs,aJ K H p xs/\k=!xs.isEmpty)\/∃kvs,H p=some (.dK kvs)/\k=!kvs.isEmpty
 | _=>False
theorem Ez {κ:Type}{kvs:List (κ × V)}{vs:List (κ × Value)}(r:KV kvs vs):(!vs.isEmpty)=!kvs.isEmpty:=by
 cases r <;> rfl
theorem vQ {xs:List V}{its:List Value}(r:Vals xs its):(!its.toArray.isEmpty)=!xs.isEmpty:=by
 cases r <;> simp
theorem rE:(sizeLine:Nat) < 2 ^ 63:=by rw[zAk]; decide
theorem F9:SX X (λx H Q=>∃k,xH X.K x H k/\Q k H):=by
 intro pins s σ H x v Q I rx h
 obtain⟨k,e,q⟩:=h
 have hl:=rE
 have hs:sizeLine=16777216:=zAk
 cases x with
 | bq=>
  cases rx
  have e':k=false:=e
  subst e'
  exact truthy_none ⟨H,I,q⟩
 | bl b=>
  cases rx
  have e':k=b:=e
  subst e'
  exact zCy ⟨H,I,q⟩
 | int i=>
  obtain⟨t,rfl⟩:=rx
  have e':k=(i != 0):=e
  subst e'
  exact PySem.P.truthy_int ⟨H,I,q⟩
 | str y=>
  obtain⟨t,rfl⟩:=rx
  obtain⟨hy,e'⟩:y.length<=sizeLine/\k=((y.length:Int) != 0):=e
  subst e'
  exact PySem.P.truthy_str (by omega) ⟨H,I.tok _,q⟩
 | mY y=>
  obtain⟨t,rfl⟩:=rx
  obtain⟨hy,e'⟩:y.size<=sizeLine/\k=((y.size:Int) != 0):=e
  subst e'
  exact PySem.W.truthy_bytes (by omega) ⟨H,I.tok _,q⟩
 | ref p=>
  cases rx
  have e':(∃xs,aD X.K H p xs/\k=!xs.isEmpty)\/(∃xs,aJ X.K H p xs/\k=!xs.isEmpty)\/∃kvs,H p=some (.dK kvs)/\k=!kvs.isEmpty:=e
  rcases e' with ⟨xs,hx,e'⟩ | ⟨xs,hx,e'⟩ | ⟨kvs,hx,e'⟩
  ·subst e'
   obtain⟨its,r,pl,hz⟩:=I.list hx
   have hlen:=r.length
   exact wpAny_truthy_list pl.isList (by simp only [zAe]; omega) ⟨H,I.tok _,by rw[vQ r]; exact q⟩
  ·subst e'
   obtain⟨its,r,pl,hz⟩:=I.tuple hx
   have hlen:=r.length
   exact truthy_tuple pl (by simp only [zAe]; omega) ⟨H,I.tok _,by rw[vQ r]; exact q⟩
  ·subst e'
   obtain⟨hz,hS,vs,r,m⟩:kvs.length<=sizeLine/\(p == sysModules)=false/\∃vs,KV kvs vs/\s.heap.DictOf (xF X.prog X.w) p vs:=I.hok p _ hx
   have hlen:kvs.length=vs.length:=Paired.length r
   exact wpAny_truthy_dict hS m (by omega) ⟨H,I.tok _,by rw[Ez r]; exact q⟩
 | _=>exact (show False from e).elim
theorem IJ (ha:PE X a ta)(he:∀whole,isTrue a X.env whole=(do let v ←whole; standAt a.pos; holding [v] (truthy v))) :
  PT X a (fun σ H Q=>ta σ H λx H'=>∃k,xH X.K x H' k/\Q k H'):=by
 intro pins s σ H Q I h
 exact isTrue_plain (aZ (ha pins s σ H _ I h) λv s1 ⟨x,H1,I1,r1,q1⟩=>F9 pins s1 σ H1 x v Q I1 r1 q1) (he _)
theorem l_:dz X (binaryOp .Add) (λx y H Q=>∃i j,x=.str i/\y=.str j/\i.length+j.length<=sizeLine/\Q (.str (i++j)) H):=by
 intro pins s σ H x y v u Q I rx ry h
 obtain⟨i,j,rfl,rfl,hz,q⟩:=h
 obtain⟨t,rfl⟩:=rx
 obtain⟨t',rfl⟩:=ry
 exact add_str (λt' tk=>⟨.str (i++j),H,I.tok _,⟨_,rfl⟩,q⟩) hz
theorem vals1 {x:V}{us:List Value}(r:Vals [x] us):∃u,us=[u]/\RelV x u:=by
 cases r with
 | cons r1 r2=>cases r2; exact⟨_,rfl,r1⟩
theorem vals2 {x y:V}{us:List Value}(r:Vals [x,y] us):∃u w',us=[u,w']/\RelV x u/\RelV y w':=by
 cases r with
 | cons r1 r2=>
  cases r2 with
  | cons r3 r4=>cases r4; exact⟨_,_,rfl,r1,r3⟩
noncomputable def rG (K:zzA)(x:V)(H:Hp)(n:Nat):Prop:=
 match x with
 | .str y=>y.length<=sizeLine/\n=y.length
 | .mY y=>y.size<=sizeLine/\n=y.size
 | .ref p=>(∃xs,aD K H p xs/\n=xs.length)\/∃xs,aJ K H p xs/\n=xs.length
 | _=>False
theorem IK:dg X (.builtin "len") (λxs H Q=>∃x n,xs=[x]/\rG X.K x H n/\Q (.int n) H):=by
 intro pins s σ H xs us Q I r h
 obtain⟨x,n,rfl,e,q⟩:=h
 obtain⟨u,rfl,rx⟩:=vals1 r
 have hl:=rE
 have hs:sizeLine=16777216:=zAk
 cases x with
 | str y=>
  obtain⟨t,rfl⟩:=rx
  obtain⟨hy,e'⟩:y.length<=sizeLine/\n=y.length:=e
  subst e'
  exact len_str (by omega) ⟨.int _,H,I.tok _,⟨_,rfl⟩,q⟩
 | mY y=>
  obtain⟨t,rfl⟩:=rx
  obtain⟨hy,e'⟩:y.size<=sizeLine/\n=y.size:=e
  subst e'
  exact PySem.W.len_bytes (by omega) ⟨.int _,H,I.tok _,⟨_,rfl⟩,q⟩
 | ref p=>
  cases rx
  have e':(∃xs,aD X.K H p xs/\n=xs.length)\/∃xs,aJ X.K H p xs/\n=xs.length:=e
  rcases e' with ⟨xs,hx,e'⟩ | ⟨xs,hx,e'⟩
  ·subst e'
   obtain⟨its,r',pl,hz⟩:=I.list hx
   have hlen:=r'.length
   exact Calls.call_len_list pl.isList (by simp only [zAe]; omega) ⟨.int xs.length,H,I.tok _,⟨_,by simp only [zAe]; rw[hlen]⟩,q⟩
  ·subst e'
   obtain⟨its,r',pl,hz⟩:=I.tuple hx
   have hlen:=r'.length
   exact len_tuple pl (by simp only [zAe]; omega) ⟨.int xs.length,H,I.tok _,⟨_,by simp only [zAe]; rw[hlen]⟩,q⟩
 | _=>exact (show False from e).elim
end
section
variable {prog:Program}{w:World}{A:Around}{E:zzE}{s:Shared}{K:zzA}{x dx C f:Addr}{mA:Str->Option Value}{name:Str}{v:Value}
end
theorem mZ.some_of {v:V}{o:Option Value}(r:mZ (some v) o):∃u,o=some u/\RelV v u:=by
 cases o with
 | none=>exact (show False from r).elim
 | some u=>exact⟨u,rfl,r⟩
section
variable {P:Program}{w:World}{H H':Hp}{h h':Heap}{a C dx:Addr}{fs fs':List (Str × V)}
end
section
variable {X:Cx}{pins:zzC}{σ:St}{H:Hp}{s:Shared}{a C dx:Addr}{fs:List (Str × V)}{f:Str}{v:V}{A:Around}{E:zzE}
end
section
variable {X:Cx}{o e value:Expr}{f:Str}{pos pos' tpos:Pos}{ta tv:TE}
end
section
variable {X:Cx}{pins:zzC}{σ:St}{H:Hp}{s:Shared}{A:Around}{E:zzE}{Q:zzE}{c:Value}{b:Bool}
end
structure fM (k:Nat)(A:Around):Prop where
 hd:A.handled=none
 dp:A.depth+3 * k+5 < recursionLimit
 un:A.units+16 * k+200 < cLine
theorem fM.mono {j k:Nat}{A:Around}(r:fM k A)(h:j<=k):fM j A:=⟨r.hd,by have:=r.dp; omega,by have:=r.un; omega⟩
theorem fM.deeper {k:Nat}{A:Around}(r:fM (k+1) A)(env:Env):fM k (A.deeper env):=
 ⟨r.hd,by have:=r.dp; show A.depth+1+3 * k+5 < _; omega,by have:=r.un; show A.units+3+16 * k+200 < _; omega⟩
theorem fM.depth {k:Nat}{A:Around}(r:fM k A):A.depth < recursionLimit:=by have:=r.dp; omega
theorem fM.units {k:Nat}{A:Around}(r:fM k A):A.units+64 < cLine:=by have:=r.un; omega
noncomputable def cM:TA:=λ_ H Q=>Q [] H
noncomputable def bE (ta:TE)(tr:TA):TA:=fun σ H Q=>ta σ H λx H1=>tr σ H1 λxs H2=>Q (x::xs) H2
section
variable {X:Cx}{e:Expr}{es:List Expr}{te:TE}{t:TA}{pos:Pos}
theorem ah:PA X [] cM:=λ_ _ _ _ H Q I h=>Calls.spliced_nil ⟨[],H,I,.nil,h⟩
theorem aa (ha:PE X e te)(hr:PA X es t)(hs:starEach (e::es) X.env=(false,eval e X.env)::starEach es X.env:=by rfl):PA X (e::es) (bE te t):=by
 intro pos pins s σ H Q I h
 rw[hs]
 show wpAny _ _ (spliced ((false,eval e X.env)::backTo pos (starEach es X.env))) _ _ s
 refine Calls.spliced_cons (aZ (ha pins s σ H _ I h) λu s1 ⟨x,H1,I1,r1,q1⟩=>?_)
 exact aZ (hr pos pins s1 σ H1 _ I1 q1) λus s2 ⟨xs,H2,I2,r2,q2⟩=>⟨x::xs,H2,I2,.cons r1 r2,q2⟩
noncomputable def uY (t:TA):TE:=fun σ H Q=>t σ H λxs H1=>xs.length<=sizeLine/\∀p,H1 p=none->Q (.ref p) (upd H1 p (.tup xs))
noncomputable def AS (t:TA):TE:=fun σ H Q=>t σ H λxs H1=>xs.length<=sizeLine/\∀p,H1 p=none->Q (.ref p) (upd H1 p (.lst xs))
theorem bP {x1}(h:PA X es t):PE X (.Tuple es x1 pos) (uY t):=by
 intro pins s σ H Q I hq
 refine wpAny_Tuple_spliced (aZ (h pos pins s σ H _ I hq) λus s1 ⟨xs,H1,I1,r,z,q⟩=>⟨by rw[←r.length]; exact z,?_⟩)
 have hf:H1 s1.heap.objs.size=none:=I1.hok.fresh (x3 _)
 refine⟨.ref s1.heap.objs.size,upd H1 s1.heap.objs.size (.tup xs),I1.laid (t':=s1.toks) (λb u e=>y8 _ e) (x3 _) ?_,rfl,q _ hf⟩
 exact⟨z,us,r,⟨_,wE _ rfl,rfl,_,rfl⟩⟩
theorem bQ (h:PA X es t):PE X (.List es pos) (AS t):=by
 intro pins s σ H Q I hq
 refine wpAny_List_spliced (aZ (h pos pins s σ H _ I hq) λus s1 ⟨xs,H1,I1,r,z,q⟩=>⟨by rw[←r.length]; exact z,?_⟩)
 have hf:H1 s1.heap.objs.size=none:=I1.hok.fresh (x3 _)
 refine⟨.ref s1.heap.objs.size,upd H1 s1.heap.objs.size (.lst xs),I1.laid (t':=s1.toks) (λb u e=>y8 _ e) (x3 _) ?_,rfl,q _ hf⟩
 exact⟨z,us,0,r,wE _ rfl⟩
end
abbrev Sp:=List V->Hp->VK->XK->Prop
abbrev o9:=List Env->Hp->Shared->XK->Value->Shared->Prop
structure EA (P:Program)(w:World)(K:zzA)(mg:Str->Option Value)(base:Heap)(A:Around)(outer:List Env)(s:Shared)(H:Hp):Prop where
 frames:A.frames=some outer
 mod:Mod K mg base
 bs:∀b o,base.get? b=some o->s.heap.get? b=some o/\H b=none
 yM:base.objs.size<=s.heap.objs.size
 m6:s.heap.FunFrames base outer
 C6:∀b∈frs outer,H b=none
 hok:g_ P w H s.heap
 bare:AllBare s.gens
noncomputable def CE (outer:List Env)(P:Program)(w:World)(H:Hp)(s:Shared)(Q:VK)(u:Value)(s':Shared):Prop:=
 ∃v H',s'.os=s.os/\AllBare s'.gens/\Un (frs outer) [] H H' s.heap s'.heap/\g_ P w H' s'.heap/\RelV v u/\Q v H'
noncomputable def CR (CX:o9)(outer:List Env)(P:Program)(w:World)(H:Hp)(s:Shared)(Q:VK)(E:XK)(r:Result)(s':Shared):Prop:=
 match r with
 | .ok (.ret u)=>CE outer P w H s Q u s'
 | .ok _=>False
 | .error e=>CX outer H s E e s'
structure bx (P:Program)(w:World)(K:zzA)(mg:Str->Option Value)(base:Heap)(CX:o9)(k:Nat)(f:Addr)(fd:FuncData)(ps:List Str)(sp:Sp):Prop where
 len:∀vs H Q E,sp vs H Q E->vs.length=ps.length
 run:∀(A:Around) (outer:List Env) (s:Shared) (H:Hp) (args:Args) (us:List Value) (vs:List V) (Q:VK) (E:XK),fM k A->EA P w K mg base A outer s H->BindsTo s fd args (ps.zip us)->Vals vs us->sp vs H Q E->
  codeAny (model P w) A (.call (.ref f) args) (CR CX outer P w H s Q E) s
section
variable {X:Cx}{pins:zzC}{σ:St}{H:Hp}{s s':Shared}
theorem Inv.S6 (I:Inv X pins σ H s):EA X.prog X.w X.K X.mg X.base X.A X.stack s H:=
 ⟨I.ok.frames,I.ok.mod,I.bs,zAu I.ok.yM I.sz,I.stack,I.C8,I.hok,I.bare⟩
theorem Inv.after {Q:VK}{u:Value}(I:Inv X pins σ H s)(h:CE X.stack X.prog X.w H s Q u s'):EP X pins σ Q u s':=by
 obtain⟨v,H',os,bare,un,hok,r,q⟩:=h
 obtain⟨hh,g,d,t,os'⟩:=s'
 obtain rfl:os'=s.os:=os
 exact⟨v,H',I.call (h':=hh) (g':=g) (d':=d) (t':=t) (ch:=[]) un hok bare (λb z=>absurd z (by simp)),r,q⟩
end
noncomputable def gS (sp:Sp)(dvs:List V)(E:XK)(t:TA):TE:=fun σ H Q=>t σ H λvs H1=>sp (vs++dvs) H1 Q E
noncomputable def Binds (K:zzA)(fd:FuncData)(ps:List Str)(ds:List Value):Prop:=
 ∀(s:Shared) (us:List Value),K.In s.heap->(us++ds).length=ps.length->BindsTo s fd ⟨us,[]⟩ (ps.zip (us++ds))
theorem Binds.all {K:zzA}{fd:FuncData}{ps:List Str}(h:∀us:List Value,us.length=ps.length->bindArgs fd ⟨us,[]⟩=pure (ps.zip us)):Binds K fd ps []:=λs us _ hl=>by
 rw[zBc] at hl ⊢
 exact .of_eq (h us hl)
noncomputable def Passes (CX:o9)(X:Cx)(E:XK):Prop:=∀(pins:zzC) (σ:St) (H:Hp) (s:Shared) (e:Value) (s':Shared),Inv X pins σ H s->CX X.stack H s E e s'->X.xe e s'
section
variable {X:Cx}{CX:o9}{k:Nat}{f C:Addr}{fd:FuncData}{ps:List Str}{sp:Sp}{dvs:List V}{ds:List Value}{E:XK}{x m:Str}{p pos apos:Pos}{e o:Expr}{es:List Expr}{ta:TE}{t:TA}
theorem Ny {pins:zzC}{σ:St}{H:Hp}{s:Shared}{Q:VK}{us:List Value}{vs:List V}(F:bx X.prog X.w X.K X.mg X.base CX k f fd ps sp)(hr:fM k X.A)(hb:Binds X.K fd ps ds)(hd:Vals dvs ds)(hx:Passes CX X E)
  (I:Inv X pins σ H s) (r:Vals vs us) (h:sp (vs++dvs) H Q E):wpAny (model X.prog X.w) X.A (call (.ref f) us) (EP X pins σ Q) X.xe s:=by
 have r2:Vals (vs++dvs) (us++ds):=r.append hd
 have hl:(us++ds).length=ps.length:=by rw[←r2.length]; exact F.len _ _ _ _ h
 refine wpAny_call (codeAny_mono (F.run X.A X.stack s H ⟨us,[]⟩ (us++ds) (vs++dvs) Q E hr I.S6 (hb s us I.C7 hl) r2 h) λr s' hq=>?_)
 cases r with
 | error e=>exact hx pins σ H s e s' I hq
 | ok fl=>
  cases fl with
  | ret u=>exact I.after hq
  | next=>exact False.elim hq
  | brk=>exact False.elim hq
  | cont=>exact False.elim hq
theorem LL (F:bx X.prog X.w X.K X.mg X.base CX k f fd ps sp)(hr:fM k X.A)(hg:Gl X x)(hm:X.mg x=some (.ref f))(hk:PySem.W.keepIn X.K (.ref f)=true)(hb:Binds X.K fd ps ds)(hd:Vals dvs ds)(hx:Passes CX X E)
  (ha:PA X (e::es) t) (hdb:(x == ("__debug__":Str))=false:=by decide) (he:starEach (e::es) X.env=(false,eval e X.env)::starEach es X.env:=by rfl) (hpl:(backTo pos (starEach es X.env)).any (·.1)=false:=by rfl) :
  PE X (.Call (.Name x p) (e::es) [] pos) (gS sp dvs E t):=by
 intro pins s σ H Q I h
 refine wpAny_Call_Name_kw (C_ I hg hm ?_ hdb)
 refine PySem.W.callWith_K (h₀:=X.base) I.ok.mod.Nf hk (aZ (ha pos pins s σ H _ I h) λus s1 ⟨vs,H1,I1,r,q⟩=>⟨I1.C7,?_⟩) he hpl
 exact Ny F hr hb hd hx I1 r q
end
section
variable {X:Cx}{CX:o9}{k:Nat}{f C:Addr}{fd:FuncData}{ps ks:List Str}{sp:Sp}{E:XK}{x m:Str}{p pos apos kpos:Pos}{e o:Expr}{es:List Expr}{kws:List Keyword}{te ta:TE}{t tk:TA}{nm:Option Str}
variable {g:List Value->List Value->List Value}{gV:List V->List V->List V}
end
structure aQ (N P:List Str)(sc:Scope):Prop where
 kind:sc.kind=.function
 co:sc.isCoroutine=false
 gen:sc.isGenerator=false
 nd:N.Nodup
 pre:N.take P.length=P
 par:∀x∈P,sc.names.lookup x=some .local\/sc.names.lookup x=some .cell
 Nz:∀y∈sc.names,y.2≠.free
theorem yR {kindOf:Str->Option NameKind}{x:Str}:∀{binds:List (Str × Value)} {m:Str->Option Value},(∀v,(x,v)∉binds)->bindL kindOf binds m x=m x
 | [],_,_=>rfl
 | (n,v)::r,m,h=>by
  unfold bindL
  rw[yR λw hw=>h w (zAr _ hw)]
  split
  ·have:x≠n:=by rintro rfl; exact h v zAs
   simp [this]
  ·rfl
theorem yS {kindOf:Str->Option NameKind}{x:Str}:∀{binds:List (Str × Value)} {m:Str->Option Value},(∀v,(x,v)∉binds)->bindC kindOf binds m x=m x
 | [],_,_=>rfl
 | (n,v)::r,m,h=>by
  unfold bindC
  rw[yS λw hw=>h w (zAr _ hw)]
  split
  ·rfl
  ·have:x≠n:=by rintro rfl; exact h v zAs
   simp [this]
theorem yT {kindOf:Str->Option NameKind}{x:Str}{v:Value}:∀{P:List Str} {vs:List Value} {i:Nat} {m:Str->Option Value},P.Nodup->P[i]?=some x->vs[i]?=some v->kindOf x=some .local->
  bindL kindOf (P.zip vs) m x=some v
 | [],_,_,_,_,h,_,_=>by simp at h
 | _::_,[],_,_,_,_,h,_=>by simp at h
 | p::P,w::vs,0,m,nd,h1,h2,hk=>by
  simp at h1 h2; subst h1; subst h2
  show bindL kindOf ((p,w)::P.zip vs) m p=_
  unfold bindL
  rw[yR λv hv=>(zCd.mp nd).1 (List.of_mem_zip hv).1,x4 hk]
  simp
 | p::P,w::vs,i+1,m,nd,h1,h2,hk=>by
  show bindL kindOf ((p,w)::P.zip vs) m x=_
  unfold bindL
  exact yT (i:=i) (zCd.mp nd).2 (by simpa using h1) (by simpa using h2) hk
theorem yU {kindOf:Str->Option NameKind}{x:Str}{v:Value}:∀{P:List Str} {vs:List Value} {i:Nat} {m:Str->Option Value},P.Nodup->P[i]?=some x->vs[i]?=some v->kindOf x≠some .local->
  bindC kindOf (P.zip vs) m x=some v
 | [],_,_,_,_,h,_,_=>by simp at h
 | _::_,[],_,_,_,_,h,_=>by simp at h
 | p::P,w::vs,0,m,nd,h1,h2,hk=>by
  simp at h1 h2; subst h1; subst h2
  show bindC kindOf ((p,w)::P.zip vs) m p=_
  unfold bindC
  rw[yS λv hv=>(zCd.mp nd).1 (List.of_mem_zip hv).1,xL hk]
  simp
 | p::P,w::vs,i+1,m,nd,h1,h2,hk=>by
  show bindC kindOf ((p,w)::P.zip vs) m x=_
  unfold bindC
  exact yU (i:=i) (zCd.mp nd).2 (by simpa using h1) (by simpa using h2) hk
noncomputable def start (N:List Str)(vs:List V):St:=vs.map some++replicate (N.length - vs.length) none
noncomputable def xJ (CX:o9)(P:Program)(w:World)(K:zzA)(mg:Str->Option Value)(base:Heap)(N:List Str)(qual:Str)(scope:Scope)(f:Addr)(cd:Value)(A:Around)(outer:List Env)(s:Shared)(H:Hp)(E:XK):Cx where
 prog:=P
 w:=w
 K:=K
 mg:=mg
 base:=base
 A:=A.deeper (envOfC qual scope s.heap.objs.size f cd)
 N:=N
 s₀:=s
 H₀:=H
 env:=envOfC qual scope s.heap.objs.size f cd
 outer:=outer
 stack:=envOfC qual scope s.heap.objs.size f cd::outer
 ex:=[]
 calm:=true
 fn:=λ_=>true
 pn:=[]
 xe:=λe s'=>wpAny (model P w) (A.deeper (envOfC qual scope s.heap.objs.size f cd)) (leaving (envOfC qual scope s.heap.objs.size f cd) e) (λ_ s''=>CX outer H s E e s'') (λe' s''=>CX outer H s E e' s'') s'
theorem AU {sc:Scope}{n:Nat}{x:Str}(h:sc.names.lookup x=some .cell):∃c,(cellsFrom n sc.names []).lookup x=some c:=by
 have q:=zDp sc.names n [] (.inl h)
 exact Option.isSome_iff_exists.mp q
theorem F_ {CX:o9}{P:Program}{w:World}{K:zzA}{mg:Str->Option Value}{base:Heap}{N ps:List Str}{qual:Str}{scope:Scope}{f:Addr}{cd:Value}{A:Around}{outer:List Env}{s s1:Shared}{H:Hp}{E:XK}{us:List Value}{vs:List V}
  (S:aQ N ps scope) (hd:A.handled=none) (e0:EA P w K mg base A outer s H) (hl:vs.length=ps.length) (r:Vals vs us)
  (x:InCallC s s.heap.objs.size (bindL (envOfC qual scope s.heap.objs.size f cd).kindOf (ps.zip us) λ_=>none) (cellsFrom (s.heap.objs.size+1) scope.names []) (bindC (envOfC qual scope s.heap.objs.size f cd).kindOf (ps.zip us) λ_=>none) s1) :
  Inv (xJ CX P w K mg base N qual scope f cd A outer s H E) [] (start N vs) H s1:=by
 have hpl:ps.length<=N.length:=by have:=zA3 length S.pre; rw[zA9] at this; omega
 obtain⟨h1,tk,rfl,hk⟩:=x.done
 have noA:∀b:Addr,b∉(xJ CX P w K mg base N qual scope f cd A outer s H E).ex:=λb z=>absurd (show b∈([]:List Addr) from z) (by simp)
 refine⟨⟨e0.mod,S.kind,rfl,rfl,x3 _,λy z c h1 h2=>?_,λy hy=>?_,λy c _ h=>?_,λ_=>hd,Around.frames_deeper e0.frames,.inr ⟨rfl,rfl⟩,λb z=>absurd z (noA b),e0.bs,e0.yM,λb _ _=>noA b,λb z=>absurd z (noA b),e0.m6,e0.C6⟩,
  rfl,e0.bare,Un.kept hk,⟨_,x.toInCall.ns,λi y v h1 h2 h3=>?_⟩,λy c h=>⟨_,x.cell y c h⟩,e0.hok.fresh (x3 _),λy c h=>?_,λp hp=>absurd (show p∈([]:zzC) from hp) (by simp),e0.hok.kept hk,?_⟩
 ·exact name_of_addr x.apart (zEa h1) (zEa h2)
 ·have hy:scope.names.lookup y=some .cell\/scope.names.lookup y=some .free:=hy
  rcases hy with hy | hy
  ·exact AU hy
  ·exact absurd rfl (S.Nz _ (zEa hy))
 ·exact le_of_lt (x.above y c (zEa h))
 ·have hi:i < vs.length:=by
   unfold start at h2
   by_cases hi:i < vs.length
   ·exact hi
   ·rw[zAz (by simpa using hi)] at h2
    rw[List.getElem?_replicate] at h2
    split at h2 <;> cases h2
  have ha:vs[i]?=some v:=by
   unfold start at h2
   rw[zA8 (by simpa using hi),wP] at h2
   cases e:vs[i]? with
   | none=>rw[e] at h2; cases h2
   | some a=>rw[e] at h2; cases h2; rfl
  obtain⟨u,hu,rv⟩:=r.get ha
  have hp:ps[i]?=some y:=by
   rw[←S.pre,List.getElem?_take_of_lt (by omega)]; exact h1
  have Rw:ps.Nodup:=by rw[←S.pre]; exact S.nd.sublist (List.take_sublist _ _)
  refine⟨u,rv,?_⟩
  rcases S.par y (zAj hp) with k | k
  ·exact .inl ⟨k,yT Rw hp hu k⟩
  ·obtain⟨c,e⟩:=AU (n:=s.heap.objs.size+1) k
   refine .inr ⟨.inl k,c,e,?_⟩
   have q:=x.cell y c e
   rw[yU Rw hp hu (by show scope.names.lookup y≠_; rw[k]; decide)] at q
   exact q
 ·exact e0.hok.fresh (le_of_lt (x.above y c (zEa h)))
 ·unfold start
  show _=N.length
  rw[zAb,y3,List.length_replicate]
  omega
theorem QH {CX:o9}{P:Program}{w:World}{K:zzA}{mg:Str->Option Value}{base:Heap}{k:Nat}{f:Addr}{name qual:Str}{params:Arguments}{body:List Stmt}{scope:Scope}{dV kV doc pm cdv ct oc:Value}{an od:Option Addr}
  {osl:Array (Option Value)} {N ps:List Str} {sp:Sp} (lk:K.lookup f=some ⟨oc,od,.func (PySem.W.fnOf name qual params body scope dV kV doc pm an cdv ct),osl⟩) (hcd:PySem.W.codeIn K cdv qual=true) (S:aQ N ps scope)
  (len:∀vs H Q E,sp vs H Q E->vs.length=ps.length)
  (hbody:∀(A:Around) (outer:List Env) (s:Shared) (H:Hp) (vs:List V) (Q:VK) (E:XK),fM k (A.deeper (envOfC qual scope s.heap.objs.size f cdv))->sp vs H Q E->
   ∃t,qw (xJ CX P w K mg base N qual scope f cdv A outer s H E) body t/\t { nx:=λ_ H'=>Q .bq H',rt:=Q } (start N vs) H) :
  bx P w K mg base CX (k+1) f (PySem.W.fnOf name qual params body scope dV kV doc pm an cdv ct) ps sp:=by
 refine⟨len,λA outer s H args us vs Q E hr e0 hb r hsp=>?_⟩
 have hl:=len _ _ _ _ hsp
 have KX:K.In s.heap:=e0.mod.Nf.keeps λb o e=>(e0.bs b o e).1
 have lim:s.heap.NoLimit:=e0.mod.nolimit.keeps λb o e=>(e0.bs b o e).1
 have hkind:∀y∈ps.zip us,scope.names.lookup y.1=some .local\/(scope.names.lookup y.1=some .cell/\((cellsFrom (s.heap.objs.size+1) scope.names []).lookup y.1).isSome=true):=λ⟨n,v⟩ hy=>by
  rcases S.par n (List.of_mem_zip hy).1 with q | q
  ·exact .inl q
  ·exact .inr ⟨q,zDp _ _ _ (.inl q)⟩
 refine codeAny_call_function hr.depth (KX _ _ lk) rfl S.co S.gen rfl (PySem.W.codeRec_of KX hcd) (hb _ _ _ _ ?_)
 refine wpAny_newFunctionEnv_cells S.kind hkind λenv he s1 x=>?_
 subst he
 refine⟨lim.keeps x.toInCall.keep,codeAny_func ?_⟩
 obtain⟨t,ht,hq⟩:=hbody A outer s H vs Q E (hr.deeper _) hsp
 have I:Inv (xJ CX P w K mg base N qual scope f cdv A outer s H E) [] (start N vs) H s1:=F_ S hr.hd e0 hl r x
 refine zCw (ht [] s1 (start N vs) H _ I hq) (λfl s' hs=>?_) λe s' hs=>hs
 have fin:∀{σ':St} {H':Hp} {v:V} {u:Value},Inv (xJ CX P w K mg base N qual scope f cdv A outer s H E) [] σ' H' s'->RelV v u->Q v H'->CE outer P w H s Q u s':=
  λ{σ' H' v u} J rv q=>⟨v,H',J.os,J.bare,J.base,J.hok,rv,q⟩
 cases fl with
 | ret u=>
  obtain⟨v,σ',H',J,rv,q⟩:=hs
  exact fin J rv q
 | next=>
  obtain⟨σ',H',J,q⟩:=hs
  exact fin (v:=V.bq) (u:=Value.none) J rfl q
 | brk=>
  obtain⟨_,_,_,q⟩:=hs
  exact False.elim q
 | cont=>
  obtain⟨_,_,_,q⟩:=hs
  exact False.elim q
section
variable {X:Cx}{x:Str}{p pos:Pos}{e:Expr}{es:List Expr}{t:TA}{id T:String}{r:List V->Hp->VK->Prop}
noncomputable def qz (r:List V->Hp->VK->Prop)(t:TA):TE:=fun σ H Q=>t σ H λvs H1=>r vs H1 Q
theorem aM (hc:dg X (.builtin id) r)(hg:Gl X x)(hm:X.mg x=none)(hv:bootBuiltins x=some (.builtin id))(ha:PA X (e::es) t)(hn:x≠"__name__":=by decide)(hdb:(x == ("__debug__":Str))=false:=by decide)
  (he:starEach (e::es) X.env=(false,eval e X.env)::starEach es X.env:=by rfl) (hpl:(backTo pos (starEach es X.env)).any (·.1)=false:=by rfl):PE X (.Call (.Name x p) (e::es) [] pos) (qz r t):=by
 intro pins s σ H Q I h
 refine wpAny_Call_Name_kw (o6 I hg hm hv ?_ hn hdb)
 exact PyProof.Rows.callWith_builtin1 (aZ (ha pos pins s σ H _ I h) λus s1 ⟨vs,H1,I1,r1,q1⟩=>hc pins s1 σ H1 vs us Q I1 r1 q1) he hpl
theorem eZ (hc:dg X (.type T) r)(hg:Gl X x)(hm:X.mg x=none)(hv:bootBuiltins x=some (.type T))(ha:PA X (e::es) t)(hn:x≠"__name__":=by decide)(hdb:(x == ("__debug__":Str))=false:=by decide)
  (he:starEach (e::es) X.env=(false,eval e X.env)::starEach es X.env:=by rfl) (hpl:(backTo pos (starEach es X.env)).any (·.1)=false:=by rfl):PE X (.Call (.Name x p) (e::es) [] pos) (qz r t):=by
 intro pins s σ H Q I h
 refine wpAny_Call_Name_kw (o6 I hg hm hv ?_ hn hdb)
 exact zCz (aZ (ha pos pins s σ H _ I h) λus s1 ⟨vs,H1,I1,r1,q1⟩=>hc pins s1 σ H1 vs us Q I1 r1 q1) he hpl
end
end L2
namespace HT
open PySem PyProof.Rows
noncomputable def lexLt:List Int->List Int->Bool
 | [],[]=>false
 | [],_::_=>true
 | _::_,[]=>false
 | x::xs,y::ys=>if x=y then lexLt xs ys else decide (x < y)
theorem iF (x y:Int)(xs ys:List Int):lexLt (x::xs) (y::ys)=if x=y then lexLt xs ys else decide (x < y):=rfl
theorem zR:lexLt [] []=false:=rfl
theorem o_ (y:Int)(ys:List Int):lexLt [] (y::ys)=true:=rfl
theorem pe (x:Int)(xs:List Int):lexLt (x::xs) []=false:=rfl
theorem IL (A:Around)(s:Shared)(a:Int)(t:Tok)(c:Int)(u:Tok):∃e,SeqAt.EqAt A s (.int a t) (.int c u) e/\(e=true↔a=c):=
 ⟨(a == c),SeqAt.EqAt.int_int a t c u,by simp⟩
theorem IM (A:Around)(s:Shared)(a:Int)(t:Tok)(c:Int)(u:Tok)(prog:Program)(w:World)(E:zzE)(Q:zzE)(h:Q (.bool (decide (a < c))) s) :
  wpAny (model prog w) A (richCompare .Lt (.int a t) (.int c u)) Q E s:=
 (PyProof.Rows.lt_int h:wpAny (model prog w) A (compareOp .Lt (.int a t) (.int c u)) Q E s)
section
open PySem.SeqAt
open PySem.AutoSeq1 (wpAny_loadPart')
open PySem.MeetsSeq PySem.MeetsSeq2 PySem.MeetsSeq3
theorem zS (l b:Addr)(items items2:Array Value)(n n2:Nat)(dd dd2:Option Addr)(sl sl2:Array (Option Value))(ns ms:List Int)(hi:IntsAre items.toList ns)(hj:IntsAre items2.toList ms) :
  Meets (Builtin.«tuple.__lt__» ⟨[.ref l,.ref b],[]⟩)
   (λ_ R s=>s.heap.get? l=some { cls:=.type "tuple",dict:=dd,data:=.seq items n,slots:=sl }/\s.heap.get? b=some { cls:=.type "tuple",dict:=dd2,data:=.seq items2 n2,slots:=sl2 }/\
    R (.ok (.ret (.bool (lexLt ns ms)))) s):=
 .of_wp λprog w A R s h=>by
  obtain⟨hp,g,d,tk,os⟩:=s; obtain⟨hl,hb,h⟩:=h
  have f2:=AutoSeq1.sub_tuple_tuple
  have z1:items.size=ns.length:=by rw[←hi.length]; simp
  have z2:items2.size=ms.length:=by rw[←hj.length]; simp
  wp_walk using wpAny_loadPart' hl,wpAny_loadPart' hb,zD4 _ (λrest b s'=>b.1=none/\s'=⟨hp,g,d,tk,os⟩/\∃(vs ws:List Value) (ns' ms':List Int),rest=vs.zip ws/\
   IntsAre vs ns'/\IntsAre ws ms'/\ns'.length+items2.size=ms'.length+items.size/\R (.ok (.ret (.bool (lexLt ns' ms')))) ⟨hp,g,d,tk,os⟩) _
  case turn=>
   rintro⟨y,x⟩ rest b s' ⟨hb',rfl,vs,ws,ns',ms',hz,NB,hwi,hlen,hR⟩
   cases NB with
   | nil=>rw[List.zip_nil_left] at hz; cases hz
   | cons a t S9=>
    cases hwi with
    | nil=>rw[List.zip_nil_right] at hz; cases hz
    | cons c u S_=>
     rw[List.zip_cons_cons] at hz
     injection hz with hyx hrest
     injection hyx with hy hx
     subst hy hx
     rw[iF] at hR
     simp only [zBq] at hlen
     obtain⟨e,he,hiff⟩:=IL A.in1 ⟨hp,g,d,tk,os⟩ a t c u
     refine yB (he prog w _ _ ?_)
     cases e with
     | true=>
      rw[x4 (hiff.mp rfl)] at hR
      wp_walk
      exact⟨rfl,rfl,_,_,_,_,hrest,S9,S_,by omega,hR⟩
     | false=>
      rw[xL (λq=>absurd (hiff.mpr q) zAf)] at hR
      have Uq:=IM A.in1 ⟨hp,g,d,tk,os⟩ a t c u prog w
      wp_walk using Uq
      exact⟨_,rfl,by simpa using hR⟩
  case fin=>
   rintro⟨b1,b2⟩ s' ⟨hb',rfl,vs,ws,ns',ms',hz,NB,hwi,hlen,hR⟩
   simp only at hb'
   subst hb'
   have hv:lexLt ns' ms'=decide (items.size < items2.size):=by
    cases NB with
    | nil=>
     cases hwi with
     | nil=>
      simp only [List.length_nil] at hlen
      rw[zR]
      exact (zAv (by omega)).symm
     | cons c u hw=>
      simp only [List.length_nil,zBq] at hlen
      rw[o_]
      exact (zAm (by omega)).symm
    | cons a t hv=>
     cases hwi with
     | nil=>
      simp only [List.length_nil,zBq] at hlen
      rw[pe]
      exact (zAv (by omega)).symm
     | cons c u hw=>
      rw[List.zip_cons_cons] at hz
      cases hz
   rw[hv] at hR
   wp_walk
   exact⟨_,rfl,by simpa [Builtin.Tuple.tupleCompareSizes] using hR⟩
  case h=>
   exact⟨rfl,rfl,items.toList,items2.toList,ns,ms,rfl,hi,hj,by omega,h⟩
end
section
variable {prog:Program}{w:World}{A:Around}{E:zzE}{s:Shared}
theorem EB {l b:Addr}{items items2:Array Value}{ns ms:List Int}{Q:zzE}(hl:IsTup s.heap l items)(hb:IsTup s.heap b items2)(hi:IntsAre items.toList ns)(hj:IntsAre items2.toList ms)
  (hu:A.units < cLine) (h:Q (.bool (lexLt ns ms)) s):wpAny (model prog w) A (compareOp .Lt (.ref l) (.ref b)) Q E s:=by
 obtain⟨⟨cls,dd,data,sl⟩,ho,hc,n,hd⟩:=id hl
 obtain⟨⟨NC,dd2,data2,sl2⟩,ho2,hc2,n2,hd2⟩:=id hb
 simp only at hc hd hc2 hd2
 subst hc hd hc2 hd2
 exact richCompare_meets_room (op:=.Lt) ⟨_,ho,rfl⟩ ⟨_,ho2,rfl⟩ PySem.F.slot_tuple_lt PySem.F.entry_tuple_lt (PySem.F.args_tuple_lt_2 _ _) (zS l b items items2 n n2 dd dd2 sl sl2 ns ms hi hj)
  ⟨ho,ho2,show Value.bool (lexLt ns ms)≠Value.notImplemented/\Q (.bool (lexLt ns ms)) s from ⟨(λx=>nomatch x),h⟩⟩ hu
theorem LM {t b:Addr}{vs ws:List Value}{Q:zzE}(ht:IsTup s.heap t vs.toArray)(hb:IsTup s.heap b ws.toArray)(hv:vs≠[])
  (h1:ws=[]->Q (.ref t) s) (h2:ws≠[]->Q (.ref s.heap.objs.size) { s with heap:=s.heap.push { cls:=.type "tuple",data:=.seq (vs++ws).toArray } })
  (hsz:vs.length+ws.length<=sizeLine):wpAny (model prog w) A (binaryOp .Add (.ref t) (.ref b)) Q E s:=by
 obtain⟨⟨cls,dd,data,sl⟩,ho,hc,n,hd⟩:=id ht
 obtain⟨⟨NC,dd2,data2,sl2⟩,ho2,hc2,n2,hd2⟩:=id hb
 simp only at hc hd hc2 hd2
 subst hc hd hc2 hd2
 have e:vs.toArray++ws.toArray=(vs++ws).toArray:=by simp
 by_cases hw:ws=[]
 ·exact concat_meets ⟨_,ho,rfl⟩ ⟨_,ho2,rfl⟩ noFill_tuple_add seq_tuple_add PySem.F.slot_tuple_add PySem.F.entry_tuple_add (PySem.F.args_tuple_add_2 _ _)
   (tuple_addW1 t b vs.toArray ws.toArray n n2 dd dd2 sl sl2 (by simpa using hv) (by simp [hw])) ⟨ho,ho2,h1 hw⟩
 ·refine concat_meets ⟨_,ho,rfl⟩ ⟨_,ho2,rfl⟩ noFill_tuple_add seq_tuple_add PySem.F.slot_tuple_add PySem.F.entry_tuple_add (PySem.F.args_tuple_add_2 _ _)
   (tuple_addW2 t b vs.toArray ws.toArray n n2 dd dd2 sl sl2 (by simpa using hv) (by simpa using hw) (by rw[zAe,zAe]; exact hsz)) ⟨ho,ho2,?_⟩
  rw[e]
  exact h2 hw
noncomputable def bH (n d:Nat):Option Int->Nat
 | none=>d
 | some v=>if v < 0 then (v+(n:Int)).toNat else min v.toNat n
theorem uZ (n d:Nat):bH n d none=d:=rfl
theorem mP (n d k:Nat):bH n d (some (k:Int))=min k n:=by
 show (if (k:Int) < 0 then ((k:Int)+(n:Int)).toNat else min (k:Int).toNat n)=min k n
 rw[xL (by omega),zAg]
theorem ND (n d:Nat)(hd:d<=n)(o:Option Int):bH n d o<=n:=by
 cases o with
 | none=>exact hd
 | some v=>
  show (if v < 0 then (v+(n:Int)).toNat else min v.toNat n)<=n
  by_cases hv:v < 0
  ·rw[x4 hv]; omega
  ·rw[xL hv]; exact Nat.min_le_right _ _
theorem Dh (v:Int)(n d:Nat):(if v < 0 then max (v+(n:Int)) 0 else min v (n:Int))=((bH n d (some v):Nat):Int):=by
 show (if v < 0 then max (v+(n:Int)) 0 else min v (n:Int))=(((if v < 0 then (v+(n:Int)).toNat else min v.toNat n):Nat):Int)
 by_cases hv:v < 0
 ·simp only [x4 hv]; omega
 ·simp only [xL hv]; omega
theorem EC (lo hi:Option Int)(n:Nat):Builtin.Slice.sliceAdjust lo hi 1 (n:Int)=(((bH n 0 lo:Nat):Int),((bH n n hi:Nat):Int)):=by
 have h1:¬ ((1:Int) < 0):=by omega
 unfold Builtin.Slice.sliceAdjust
 simp only [h1,zBa]
 refine Prod.ext ?_ ?_
 ·cases lo with
  | none=>rfl
  | some v=>exact Dh v n 0
 ·cases hi with
  | none=>rfl
  | some v=>exact Dh v n n
theorem ED (i j:Nat):Builtin.Slice.slicePlaces (i:Int) (j:Int) 1=j - i:=by
 unfold Builtin.Slice.slicePlaces
 have h1:(1:Int) > 0:=by omega
 simp only [h1,zCt,Int.ediv_one]
 split <;> omega
theorem vR {v:Value}{o:Option Int}{Q:Option Int->Shared->Prop}(p:IsPart v o)(h:Q o s):wpAny (model prog w) A (Builtin.Slice.slicePartIndex v) Q E s:=by
 cases p with
 | none=>exact slicePart_none h
 | int i t=>exact slicePart_int h
theorem u6 {sl:Addr}{vl vu:Value}{lo hi:Option Int}{n:Nat}{Q:Int × Int × Nat->Shared->Prop}(hs:s.heap.IsSliceOf sl vl vu .none)(pl:IsPart vl lo)(pu:IsPart vu hi)
  (h:Q (((bH n 0 lo:Nat):Int),1,bH n n hi - bH n 0 lo) s):wpAny (model prog w) A (Builtin.Slice.sliceApplied (.ref sl) (pure (n:Int))) Q E s:=by
 obtain⟨os,hos,hcs,hds⟩:=id hs
 unfold Builtin.Slice.sliceApplied Builtin.Slice.sliceFields
 refine yB (yB (zCf hos hds (x:=vl) rfl (yB (zCf hos hds (x:=vu) rfl (yB (zCf hos hds (x:=.none) rfl (y6 ?_)))))))
 refine yB (slicePart_none ?_)
 show wpAny _ _ (if ((1:Int) == 0)=true then _ else _) _ _ s
 rw[xL (by decide)]
 refine yB (vR pl (yB (vR pu (yB (y6 ?_)))))
 show wpAny _ _ (match Builtin.Slice.sliceAdjust lo hi 1 (n:Int) with | (lo,hi)=>pure (lo,(1:Int),Builtin.Slice.slicePlaces lo hi 1)) _ _ s
 rw[EC lo hi n]
 show wpAny _ _ (pure (((bH n 0 lo:Nat):Int),(1:Int),Builtin.Slice.slicePlaces ((bH n 0 lo:Nat):Int) ((bH n n hi:Nat):Int) 1)) _ _ s
 rw[ED]
 exact y6 h
theorem IP (xs:Array Value)(i k:Nat):((range k).filterMap λ(m:Nat)=>xs[((i:Int)+(m:Int) * 1).toNat]?).toArray=((xs.toList.drop i).take k).toArray:=by
 have e:(λ(m:Nat)=>xs[((i:Int)+(m:Int) * 1).toNat]?)=λm=>xs[i+m]?:=by
  funext m
  have:((i:Int)+(m:Int) * 1).toNat=i+m:=by omega
  rw[this]
 rw[e]
 have:=pick_run xs i k
 rw[List.filterMap_map] at this
 have e2:((λx=>xs[x]?) ∘ λx=>i+x)=λm=>xs[i+m]?:=rfl
 rw[e2] at this
 rw[this]
theorem uf {t sl:Addr}{items:Array Value}{vl vu:Value}{lo hi:Option Int}{Q:zzE}(ht:IsTup s.heap t items)(hs:s.heap.IsSliceOf sl vl vu .none)(pl:IsPart vl lo)(pu:IsPart vu hi)
  (hw:¬ (bH items.size 0 lo=0/\bH items.size items.size hi=items.size))
  (h:Q (.ref s.heap.objs.size) { s with heap:=s.heap.push { cls:=.type "tuple",data:=.seq ((items.toList.drop (bH items.size 0 lo)).take (bH items.size items.size hi - bH items.size 0 lo)).toArray } })
  (hsz:items.size<=sizeLine):wpAny (model prog w) A (getItem (.ref t) (.ref sl)) Q E s:=by
 have Ai:sizeOk (.seq ((items.toList.drop (bH items.size 0 lo)).take (bH items.size items.size hi - bH items.size 0 lo)).toArray):=by
  show ((items.toList.drop (bH items.size 0 lo)).take (bH items.size items.size hi - bH items.size 0 lo)).toArray.size<=sizeLine
  rw[zAe,zA9,zBx,u8]
  omega
 have hj:bH items.size items.size hi<=items.size:=ND _ _ (x3 _) hi
 obtain⟨os,hos,hcs,hds⟩:=id hs
 have Ur:s.TypeIs (.ref sl) "slice":=⟨os,hos,hcs⟩
 unfold getItem
 try with_reducible refine zBs ?_
 first | refine yB (y6 ?_) | skip
 refine yB (wpAny_sequenceKey ht.typeIs (by decide) ?_)
 refine yB (zBo (name:=ofString "__getitem__") ht.typeIs PyProof.Rows.slot_tuple_getitem
  (zBe PyProof.Rows.slot_tuple_getitem ht.typeIs entry_tuple_getitem ?_ (args_tuple_getitem _ _)))
 show wpAny _ _ (Builtin.Tuple.tupleItemsOf (.ref t) >>= _) _ _ s
 refine yB (tupleItemsOf_ ht ?_)
 refine yB (zD3 Ur ?_)
 rw[x4 (by decide)]
 refine yB (u6 hs pl pu ?_)
 have hno:¬ ((((bH items.size 0 lo:Nat):Int) == 0&&(1:Int) == 1&&(bH items.size items.size hi - bH items.size 0 lo) == items.size)=true):=by
  intro q
  rw[zBy,zBy] at q
  have q1:((bH items.size 0 lo:Nat):Int)=0:=eq_of_beq q.1.1
  have q2:bH items.size items.size hi - bH items.size 0 lo=items.size:=eq_of_beq q.2
  exact hw ⟨by omega,by omega⟩
 show wpAny _ _ (if (((bH items.size 0 lo:Nat):Int) == 0&&(1:Int) == 1&&(bH items.size items.size hi - bH items.size 0 lo) == items.size)=true then _ else _) _ _ s
 rw[xL hno,IP]
 first
  | exact yB (m:=tupleExact _) (zBl (y6 ⟨_,rfl,y6 h⟩) Ai)
  | exact yB (m:=tupleExact _) (zBl (yB (y6 (y6 ⟨_,rfl,y6 h⟩))) Ai)
  | exact yB (yB (m:=tupleExact _) (zBl (y6 (y6 ⟨_,rfl,y6 h⟩)) Ai))
  | exact yB (yB (m:=tupleExact _) (zBl (y6 ⟨_,rfl,y6 h⟩) Ai))
end
end HT
namespace L2
open PySem PySem.Spec PyProof.Rows
abbrev TO:=St->Hp->(Option Int->Hp->Prop)->Prop
noncomputable def PO (X:Cx)(e:Option Expr)(t:TO):Prop:=
 ∀(pins:zzC) (s:Shared) (σ:St) (H:Hp) (Q:Option Int->Hp->Prop),Inv X pins σ H s->t σ H Q->
  wpAny (model X.prog X.w) X.A (evalPart e X.env) (λu s'=>∃o H',Inv X pins σ H' s'/\IsPart u o/\Q o H') X.xe s
noncomputable def mQ:TO:=λ_ H Q=>Q none H
noncomputable def nS (t:TE):TO:=fun σ H Q=>t σ H λx H1=>∃i,x=.int i/\Q (some i) H1
theorem intsAre_of {ns:List Int}:∀{us:List Value},Vals (ns.map V.int) us->IntsAre us ns:=by
 induction ns with
 | nil=>intro us r; rw[map_nil] at r; cases r; exact .nil
 | cons n ns ih=>
  intro us r
  rw[zAo] at r
  cases r with
  | cons r1 r2=>
   obtain⟨t,e⟩:=r1
   subst e
   exact .cons n t (ih r2)
section
variable {X:Cx}{e:Expr}{te:TE}{lo hi:Option Expr}{tl th:TO}{pos p2:Pos}
theorem pq:PO X none mQ:=by
 intro pins s σ H Q I h
 rw[evalPart_none]
 exact y6 ⟨none,H,I,.none,h⟩
theorem kh (h:PE X e te):PO X (some e) (nS te):=by
 intro pins s σ H Q I hw
 rw[evalPart_some]
 refine aZ (h pins s σ H _ I hw) λu s1 ⟨x,H1,I1,r1,q1⟩=>?_
 obtain⟨i,rfl,q⟩:=q1
 obtain⟨t,rfl⟩:=r1
 exact⟨some i,H1,I1,.int i t,q⟩
noncomputable def Di (X:Cx)(r:V->Option Int->Option Int->Hp->VK->Prop):Prop:=
 ∀(pins:zzC) (s:Shared) (σ:St) (H:Hp) (x:V) (v vl vu:Value) (lo hi:Option Int) (sl:Addr) (Q:VK),Inv X pins σ H s->RelV x v->s.heap.IsSliceOf sl vl vu .none->IsPart vl lo->IsPart vu hi->r x lo hi H Q->
  ∃T id,typeLookup (.type T) "__getitem__"=pure (some (.builtin id))/\s.TypeIs v T/\wpAny (model X.prog X.w) X.A (getItem v (.ref sl)) (EP X pins σ Q) X.xe s
noncomputable def AV (r:V->Option Int->Option Int->Hp->VK->Prop)(te:TE)(tl th:TO):TE:=fun σ H Q=>te σ H λx H1=>tl σ H1 λl H2=>th σ H2 λu H3=>r x l u H3 Q
theorem ki {r:V->Option Int->Option Int->Hp->VK->Prop}(hr:Di X r)(he:PE X e te)(hl:PO X lo tl)(hu:PO X hi th):PE X (.Subscript e (.Slice lo hi none p2) pos) (AV r te tl th):=by
 intro pins s σ H Q I h
 refine Subscript_ (aZ (he pins s σ H _ I h) λv s1 ⟨x,H1,I1,r1,q1⟩=>?_)
 refine wpAny_Slice (aZ (hl pins s1 σ H1 _ I1 q1) λvl s2 ⟨l,H2,I2,pl,q2⟩=>aZ (hu pins s2 σ H2 _ I2 q2) λvu s3 ⟨u,H3,I3,pu,q3⟩=>?_)
 rw[evalPart_none]
 refine y6 ?_
 have I4:Inv X pins σ H3 { s3 with heap:=s3.heap.push { cls:=.type "slice",data:=.fields #[vl,vu,.none] } }:=I3.kept (t':=s3.toks) λb ob q=>y8 _ q
 obtain⟨T,id,hT,ht,hg⟩:=hr pins { s3 with heap:=s3.heap.push { cls:=.type "slice",data:=.fields #[vl,vu,.none] } } σ H3 x v vl vu l u s3.heap.objs.size Q I4 r1 (Heap.IsSliceOf.new ..) pl pu q3
 show wpAny (model X.prog X.w) X.A (subscriptTail e (.Slice lo hi none p2) v (.ref s3.heap.objs.size)) (EP X pins σ Q) X.xe { s3 with heap:=s3.heap.push { cls:=.type "slice",data:=.fields #[vl,vu,.none] } }
 exact tail_any (ops:=[.ref s3.heap.objs.size,v]) ht hT hg (by with_unfolding_all rfl)
noncomputable def gM (xs:List V)(lo hi:Option Int):List V:=(xs.drop (HT.bH xs.length 0 lo)).take (HT.bH xs.length xs.length hi - HT.bH xs.length 0 lo)
theorem ur (xs:List V)(lo hi:Option Int):(gM xs lo hi).length<=xs.length:=by
 unfold gM
 rw[zA9,zBx]
 omega
noncomputable def EE (K:zzA):V->Option Int->Option Int->Hp->VK->Prop:=λx lo hi H Q=>∃a xs,x=.ref a/\aJ K H a xs/\
 ¬ (HT.bH xs.length 0 lo=0/\HT.bH xs.length xs.length hi=xs.length)/\∀p,H p=none->Q (.ref p) (upd H p (.tup (gM xs lo hi)))
theorem NG:Di X (EE X.K):=by
 intro pins s σ H x v vl vu lo hi sl Q I rx hs pl pu h
 obtain⟨a,xs,rfl,hx,hw,q⟩:=h
 cases rx
 obtain⟨its,r,ht,hz⟩:=I.tuple hx
 have hlen:its.toArray.size=xs.length:=by rw[zAe]; exact r.length.symm
 refine⟨"tuple",_,PyProof.Rows.slot_tuple_getitem.lookup,ht.typeIs,?_⟩
 refine HT.uf ht hs pl pu (by rw[hlen]; exact hw) ?_ (by rw[hlen]; exact hz)
 rw[hlen]
 refine⟨.ref s.heap.objs.size,_,I.laid (t':=s.toks) (o:=.tup (gM xs lo hi)) (λb ob q=>y8 _ q) (x3 _) ?_,rfl,q _ (I.hok.fresh (x3 _))⟩
 exact⟨zAu (ur xs lo hi) hz,_,(r.drop (HT.bH xs.length 0 lo)).take (HT.bH xs.length xs.length hi - HT.bH xs.length 0 lo),IsTup.new _ _⟩
noncomputable def IQ (K:zzA):R2:=λx y H Q=>∃a b ns ms,x=.ref a/\y=.ref b/\aJ K H a (ns.map V.int)/\aJ K H b (ms.map V.int)/\Q (.bl (HT.lexLt ns ms)) H
theorem NH (hu:X.A.units < cLine):dz X (compareOp .Lt) (IQ X.K):=by
 intro pins s σ H x y v u Q I rx ry h
 obtain⟨a,b,ns,ms,rfl,rfl,ha,hb,q⟩:=h
 cases rx
 cases ry
 obtain⟨its,r1,p1,_⟩:=I.tuple ha
 obtain⟨its2,r2,p2,_⟩:=I.tuple hb
 have i1:IntsAre its.toArray.toList ns:=intsAre_of r1
 have i2:IntsAre its2.toArray.toList ms:=intsAre_of r2
 exact HT.EB p1 p2 i1 i2 hu ⟨.bl (HT.lexLt ns ms),H,I,rfl,q⟩
noncomputable def QI (K:zzA):R2:=λx y H Q=>∃a b xs ys,x=.ref a/\y=.ref b/\aJ K H a xs/\aJ K H b ys/\xs≠[]/\xs.length+ys.length<=sizeLine/\
 (ys=[]->Q (.ref a) H)/\(ys≠[]->∀p,H p=none->Q (.ref p) (upd H p (.tup (xs++ys))))
theorem Vals.xK {xs:List V}{us:List Value}(r:Vals xs us):us=[]↔xs=[]:=by
 cases r with
 | nil=>simp
 | cons _ _=>simp
theorem LN:dz X (binaryOp .Add) (QI X.K):=by
 intro pins s σ H x y v u Q I rx ry h
 obtain⟨a,b,xs,ys,rfl,rfl,ha,hb,hx,hz,q1,q2⟩:=h
 cases rx
 cases ry
 obtain⟨its,r1,p1,_⟩:=I.tuple ha
 obtain⟨its2,r2,p2,_⟩:=I.tuple hb
 refine HT.LM p1 p2 (λz=>hx (r1.xK.mp z)) (λz=>⟨.ref a,H,I,rfl,q1 (r2.xK.mp z)⟩) (λz=>?_) (by rw[←r1.length,←r2.length]; exact hz)
 refine⟨.ref s.heap.objs.size,_,I.laid (t':=s.toks) (o:=.tup (xs++ys)) (λb ob q=>y8 _ q) (x3 _) ?_,rfl,q2 (λw=>z (r2.xK.mpr w)) _ (I.hok.fresh (x3 _))⟩
 exact⟨by rw[zAb]; exact hz,_,r1.append r2,IsTup.new _ _⟩
end
noncomputable def AW (n:Nat)(i:Int):Option Nat:=if 0<=i then (if i < n then some i.toNat else none) else if -(n:Int)<=i then some (i+n).toNat else none
noncomputable def iR {α:Type}(xs:List α)(i:Int):Option α:=(AW xs.length i).bind λj=>xs[j]?
theorem LO {n:Nat}{i:Int}{j:Nat}(h:AW n i=some j):seqIndex? i n=some j/\j < n/\-(n:Int)<=i/\i < n:=by
 unfold AW at h
 by_cases h0:0<=i
 ·rw[x4 h0] at h
  by_cases h1:i < n
  ·rw[x4 h1] at h
   have e:i.toNat=j:=zAh h
   exact⟨by rw[seqIndex_of h0 h1,e],by omega,by omega,h1⟩
  ·rw[xL h1] at h; cases h
 ·rw[xL h0] at h
  by_cases h1:-(n:Int)<=i
  ·rw[x4 h1] at h
   have e:(i+n).toNat=j:=zAh h
   exact⟨by rw[seqIndex_neg (by omega) h1,e],by omega,h1,by omega⟩
  ·rw[xL h1] at h; cases h
theorem xM {α:Type}{xs:List α}{i:Int}{v:α}(h:iR xs i=some v):∃j,seqIndex? i xs.length=some j/\xs[j]?=some v/\j < xs.length/\-(xs.length:Int)<=i/\i < xs.length:=by
 unfold iR at h
 cases e:AW xs.length i with
 | none=>rw[e] at h; cases h
 | some j=>
  rw[e] at h
  obtain⟨h1,h2,h3,h4⟩:=LO e
  exact⟨j,h1,h,h2,h3,h4⟩
theorem aG {α:Type}{xs:List α}{j:Nat}{v:α}(h:xs[j]?=some v):iR xs (j:Int)=some v:=by
 have hj:j < xs.length:=(zAp.mp h).1
 have e:AW xs.length (j:Int)=some j:=by
  unfold AW
  rw[x4 (by omega),x4 (by omega)]; simp
 unfold iR; rw[e]; exact h
noncomputable def LP (b:Expr):Prop:=∀o i,subscripted b false o i=operate [o,i] (getItem o i)
noncomputable def Dj (X:Cx)(r:R2):Prop:=
 ∀(value slice:Expr) (pins:zzC) (s:Shared) (σ:St) (H:Hp) (x y:V) (v u:Value) (Q:VK),Inv X pins σ H s->RelV x v->RelV y u->r x y H Q->
  subscripted slice false v u=operate [v,u] (getItem v u)->wpAny (model X.prog X.w) X.A (subscriptTail value slice v u) (EP X pins σ Q) X.xe s
noncomputable def Km (X:Cx)(id:String)(r:V->List V->Hp->VK->Prop):Prop:=
 ∀(pins:zzC) (s:Shared) (σ:St) (H:Hp) (x:V) (xs:List V) (v:Value) (us:List Value) (Q:VK),Inv X pins σ H s->RelV x v->Vals xs us->r x xs H Q->
  wpAny (model X.prog X.w) X.A (call (.builtin id) (v::us)) (EP X pins σ Q) X.xe s
section
variable {X:Cx}{a b:Expr}{ta tb:TE}{pos:Pos}
theorem aH {r:R2}(hr:Dj X r)(ha:PE X a ta)(hb:PE X b tb)(hs:LP b):PE X (.Subscript a b pos) (di r ta tb):=by
 intro pins s σ H Q I h
 exact Subscript_ (IE ha hb I h λv u s2 x y H2 I2 rx ry q=>hr a b pins s2 σ H2 x y v u Q I2 rx ry q (hs _ _))
noncomputable def oY (K:zzA):R2:=λx y H Q=>∃p xs i v,x=.ref p/\y=.int i/\aD K H p xs/\iR xs i=some v/\Q v H
noncomputable def xN (K:zzA):R2:=λx y H Q=>∃p xs i v,x=.ref p/\y=.int i/\aJ K H p xs/\iR xs i=some v/\Q v H
noncomputable def NI:R2:=λx y H Q=>∃z i c,x=.str z/\y=.int i/\z.length<=sizeLine/\iR z.cps.toList i=some c/\Q (.str ⟨#[c]⟩) H
theorem LQ:Dj X (oY X.K):=by
 intro value slice pins s σ H x y v u Q I rx ry h hs
 obtain⟨p,xs,i,z,rfl,rfl,hq,he,q⟩:=h
 cases rx
 obtain⟨t,rfl⟩:=ry
 obtain⟨its,r,pl,hz⟩:=I.list hq
 obtain⟨j,h1,h2,h3,h4,h5⟩:=xM he
 obtain⟨w,ew,rw'⟩:=r.get h2
 have hl:=r.length
 have hn:=rE
 have fin:EP X pins σ Q w s:=⟨z,H,I,rw',q⟩
 by_cases h0:0<=i
 ·have hj:i.toNat=j:=by
   rw[seqIndex_of h0 h5] at h1
   exact zAh h1
  exact item_listR pl.isList h0 (by omega) (by rw[hj]; simpa using ew) fin hs
 ·have hj:(i+(its.toArray.size:Int)).toNat=j:=by
   rw[seqIndex_neg (by omega) h4] at h1
   rw[zAe,←hl]
   exact zAh h1
  exact subscriptTail_builtinR (x:=w) pl.isList.typeIs slot_list_getitem.lookup
   (wpAny_getItem_list_neg (Q:=λr s'=>r=w/\EP X pins σ Q r s') pl.isList (by omega) (by rw[zAe] <;> omega) (by omega) (by rw[hj]; simpa using ew) ⟨rfl,fin⟩) hs
theorem NJ:Dj X (xN X.K):=by
 intro value slice pins s σ H x y v u Q I rx ry h hs
 obtain⟨p,xs,i,z,rfl,rfl,hq,he,q⟩:=h
 cases rx
 obtain⟨t,rfl⟩:=ry
 obtain⟨its,r,pl,hz⟩:=I.tuple hq
 obtain⟨j,h1,h2,h3,h4,h5⟩:=xM he
 obtain⟨w,ew,rw'⟩:=r.get h2
 have hl:=r.length
 have hn:=rE
 have fin:EP X pins σ Q w s:=⟨z,H,I,rw',q⟩
 exact subscriptTail_builtinR (x:=w) pl.typeIs slot_tuple_getitem.lookup
  (getItem_tuple (j:=j) (Q:=λr s'=>r=w/\EP X pins σ Q r s') pl (by omega) (by omega) (by rw[zAe,←hl]; exact h1) (by simpa using ew) ⟨rfl,fin⟩) hs
theorem lg:Dj X NI:=by
 intro value slice pins s σ H x y v u Q I rx ry h hs
 obtain⟨z,i,c,rfl,rfl,hz,he,q⟩:=h
 obtain⟨t,rfl⟩:=rx
 obtain⟨t',rfl⟩:=ry
 obtain⟨j,h1,h2,h3,h4,h5⟩:=xM he
 have hl:z.cps.toList.length=z.length:=by simp [Str.length]
 rw[hl] at h1 h4 h5
 have hn:=rE
 exact tail_any (typeIs_str s z t) slot_str_getitem.lookup (getItem_str (c:=c) (by
  have e1:decide (i < -(2 ^ 63:Int))=false:=zAv (by omega)
  have e2:decide (i >= 2 ^ 63)=false:=zAv (by omega)
  rw[e1,e2,Bool.or_false]) (by rw[h1]; simpa using h2) ⟨.str ⟨#[c]⟩,H,I.tok _,⟨_,rfl⟩,q⟩) hs
theorem AX (lo hi:Option Int)(n:Nat):(sliceBounds lo hi none n).1=((HT.bH n 0 lo:Nat):Int)/\(sliceBounds lo hi none n).2.1=((HT.bH n n hi:Nat):Int)/\(sliceBounds lo hi none n).2.2=1:=by
 refine⟨?_,?_,rfl⟩
 ·cases lo with
  | none=>simp [sliceBounds,HT.bH]
  | some i=>
   simp only [sliceBounds,HT.bH,Option.getD_none,show (1:Int) > 0 by decide,zCt]
   by_cases h:i < 0
   ·simp only [h,zCt] <;> omega
   ·simp only [h,zBa] <;> omega
 ·cases hi with
  | none=>simp [sliceBounds,HT.bH]
  | some i=>
   simp only [sliceBounds,HT.bH,Option.getD_none,show (1:Int) > 0 by decide,zCt]
   by_cases h:i < 0
   ·simp only [h,zCt] <;> omega
   ·simp only [h,zBa] <;> omega
theorem zT (its:List Value)(lo hi:Option Int):slicePick its.toArray lo hi none=((its.drop (HT.bH its.length 0 lo)).take (HT.bH its.length its.length hi - HT.bH its.length 0 lo)).toArray:=by
 obtain⟨h1,h2,h3⟩:=AX lo hi its.toArray.size
 unfold slicePick
 rw[h1,h2,h3]
 simp only [sliceRange_one,pick_run,zAe] <;> rfl
noncomputable def EF (K:zzA):V->Option Int->Option Int->Hp->VK->Prop:=λx lo hi H Q=>∃a xs,x=.ref a/\aD K H a xs/\∀p,H p=none->Q (.ref p) (upd H p (.lst (gM xs lo hi)))
theorem LR:Di X (EF X.K):=by
 intro pins s σ H x v vl vu lo hi sl Q I rx hs pl pu h
 obtain⟨a,xs,rfl,hx,q⟩:=h
 cases rx
 obtain⟨its,r,ht,hz⟩:=I.list hx
 have hlen:=r.length
 refine⟨"list",_,slot_list_getitem.lookup,ht.isList.typeIs,?_⟩
 refine wpAny_getItem_list_slice ht.isList hs pl pu .none (by simp) ?_ (by rw[zAe] <;> omega)
 rw[zT,←hlen]
 refine⟨.ref s.heap.objs.size,_,I.laid (t':=s.toks) (o:=.lst (gM xs lo hi)) (λb ob q=>y8 _ q) (x3 _) ?_,rfl,q _ (I.hok.fresh (x3 _))⟩
 exact⟨zAu (ur xs lo hi) hz,_,0,(r.drop (HT.bH xs.length 0 lo)).take (HT.bH xs.length xs.length hi - HT.bH xs.length 0 lo),wE _ rfl⟩
theorem AY:dg X (.type "list") (λxs H Q=>∃p ys,xs=[.ref p]/\(aD X.K H p ys\/aJ X.K H p ys)/\∀l,H l=none->Q (.ref l) (upd H l (.lst ys))):=by
 intro pins s σ H xs us Q I r h
 obtain⟨p,ys,rfl,hq,q⟩:=h
 obtain⟨u,rfl,rx⟩:=vals1 r
 cases rx
 have fin:∀(its:List Value),Vals ys its->ys.length<=sizeLine->∀(h':Heap) (c':Nat),(∀b o',s.heap.get? b=some o'->h'.get? b=some o')->
   h'.get? s.heap.objs.size=some { cls:=.type "list",dict:=none,data:=.seq its.toArray c',slots:=#[] }->EP X pins σ Q (.ref s.heap.objs.size) { s with heap:=h' }:=λits r' hz h' c' kp e=>
  ⟨.ref s.heap.objs.size,_,I.laid (t':=s.toks) kp (x3 _) (show bR X.prog X.w _ h' _ (.lst ys) from ⟨hz,its,c',r',e⟩),rfl,q _ (I.hok.fresh (x3 _))⟩
 rcases hq with hq | hq
 ·obtain⟨its,r',pl,hz⟩:=I.list hq
  have hlen:=r'.length
  obtain⟨o,ho,hc,n,hd⟩:=pl.isList
  exact call_list_seq p (.inl rfl) ho hc hd (λh' c' kp e=>fin its r' hz h' c' kp e) (by simp only [zAe] <;> omega)
 ·obtain⟨its,r',pl,hz⟩:=I.tuple hq
  have hlen:=r'.length
  obtain⟨o,ho,hc,n,hd⟩:=pl
  exact call_list_seq p (.inr rfl) ho hc hd (λh' c' kp e=>fin its r' hz h' c' kp e) (by simp only [zAe] <;> omega)
theorem zU:dg X (.type "tuple") (λxs H Q=>∃p ys,xs=[.ref p]/\((aD X.K H p ys/\∀l,H l=none->Q (.ref l) (upd H l (.tup ys)))\/(aJ X.K H p ys/\Q (.ref p) H))):=by
 intro pins s σ H xs us Q I r h
 obtain⟨p,ys,rfl,h⟩:=h
 obtain⟨u,rfl,rx⟩:=vals1 r
 cases rx
 rcases h with ⟨hq,q⟩ | ⟨hq,q⟩
 ·obtain⟨its,r',pl,hz⟩:=I.list hq
  have hlen:=r'.length
  refine call_tuple_list pl.isList (λh' kp=>?_) (by simp only [zAe] <;> omega)
  have I1:Inv X pins σ H { s with heap:=h' }:=I.kept (t':=s.toks) kp
  have I2:Inv X pins σ (upd H h'.objs.size (.tup ys)) { s with heap:=h'.push { cls:=.type "tuple",data:=.seq its.toArray } }:=
   I1.laid (t':=s.toks) (λb o e=>y8 _ e) (x3 _) (show bR X.prog X.w _ _ _ (.tup ys) from ⟨hz,its,r',IsTup.new _ _⟩)
  exact⟨.ref h'.objs.size,_,I2,rfl,q _ (I1.hok.fresh (x3 _))⟩
 ·obtain⟨its,r',pl,hz⟩:=I.tuple hq
  exact call_tuple_same pl ⟨.ref p,H,I,rfl,q⟩
noncomputable def Rx (K:zzA)(T:String)(x:V)(H:Hp):Prop:=match x with
 | .str _=>T="str"
 | .int _=>T="int"
 | .ref p=>(T="list"/\∃xs,aD K H p xs)\/(T="tuple"/\∃o,K.lookup p=some o/\o.cls=.type "tuple"/\o.dict=none)\/
   (T="dict"/\((∃kvs,H p=some (.dK kvs))\/∃kvs,H p=some (.dT kvs)))\/(T="set"/\∃S n,H p=some (.set S n))
 | _=>False
theorem NL {pins:zzC}{σ:St}{H:Hp}{s:Shared}{T:String}{x:V}{v:Value}(I:Inv X pins σ H s)(r:RelV x v)(ty:Rx X.K T x H) :
  s.TypeIs v T/\∀a,v=.ref a->∃ob,s.heap.get? a=some ob/\ob.dict=none:=by
 cases x with
 | str z=>
  obtain⟨t,rfl⟩:=r
  cases (show T="str" from ty)
  exact⟨typeIs_str s z t,λ_ e=>nomatch e⟩
 | int i=>
  obtain⟨t,rfl⟩:=r
  cases (show T="int" from ty)
  exact⟨typeIs_int s i t,λ_ e=>nomatch e⟩
 | ref p=>
  cases r
  rcases ty with ⟨rfl,xs,hq⟩ | ⟨rfl,o,hk,hc,hd⟩ | ⟨rfl,hk⟩ | ⟨rfl,S,n,hk⟩
  ·obtain⟨its,_,pl,_⟩:=I.list hq
   refine⟨pl.isList.typeIs,λa e=>?_⟩
   cases e
   obtain⟨o,n,e,c,hd,_⟩:=pl
   exact⟨o,e,hd⟩
  ·refine⟨⟨o,I.C7 p o hk,hc⟩,λa e=>?_⟩
   cases e
   exact⟨o,I.C7 _ o hk,hd⟩
  ·have z:∃o,s.heap.get? p=some o/\o.ExactDict:=by
    rcases hk with ⟨kvs,hk⟩ | ⟨kvs,hk⟩
    ·obtain⟨_,_,_,_,o,_,_,e,ex,_⟩:=I.hok p _ hk
     exact⟨o,e,ex⟩
    ·obtain⟨_,_,_,_,o,_,_,e,ex,_⟩:=I.hok p _ hk
     exact⟨o,e,ex⟩
   obtain⟨o,e,ex⟩:=z
   refine⟨⟨o,e,ex.1⟩,λa e2=>?_⟩
   cases e2
   exact⟨o,e,ex.2.1⟩
  ·obtain⟨o,_,_,_,e,ex,_⟩:=I.hok p _ hk
   refine⟨⟨o,e,ex.1⟩,λa e2=>?_⟩
   cases e2
   exact⟨o,e,ex.2.1⟩
 | _=>exact False.elim ty
noncomputable def yV (K:zzA)(T:String)(r:V->List V->Hp->VK->Prop)(to:TE)(t:TA):TE:=fun σ H Q=>to σ H λx H1=>Rx K T x H1/\t σ H1 λxs H2=>r x xs H2 Q
variable {o e:Expr}{es:List Expr}{to:TE}{t:TA}{name:Str}{apos cpos:Pos}{T id:String}{r:V->List V->Hp->VK->Prop}
theorem QJ (pa:PlainAttrs T)(slot:Slot T name id)(hty:typeOf (.builtin id)=pure (.type "method_descriptor"))(hm:Km X id r)(ho:PE X o to)(ha:PA X (e::es) t)
  (hbase:attributeBase o name X.env (eval o X.env)=eval o X.env:=by rfl)
  (hfew:((backTo cpos (starEach (e::es) X.env)).all (λx=>!x.1)&&(backToKw cpos (keywordEach [] X.env)).all (λx=>x.1.isSome)
   &&decide ((e::es).length+([]:List Keyword).length+(if ([]:List Keyword).isEmpty then 0 else 1) < 30))=true:=by rfl)
  (hline:(apos.endLine == cpos.line)=true:=by rfl) (hs:starEach (e::es) X.env=(false,eval e X.env)::starEach es X.env:=by rfl) (hplain:(backTo cpos (starEach es X.env)).any (·.1)=false:=by rfl) :
  PE X (.Call (.Attribute o name apos) (e::es) [] cpos) (yV X.K T r to t):=by
 intro pins s σ H Q I h
 refine wpAny_Call_method_late hbase hfew hline rfl (aZ (ho pins s σ H _ I h) λv s1 ⟨x,H1,I1,r1,ty,q1⟩=>?_)
 obtain⟨h1,h2⟩:=NL I1 r1 ty
 refine⟨T,id,pa,slot,hty,h1,h2,?_⟩
 have hA:=ha cpos pins s1 σ H1 _ I1 q1
 rw[hs] at hA ⊢
 refine Calls.callWith_builtin (by show (false||(backTo cpos (starEach es X.env)).any (·.1))=false; rw[hplain] <;> rfl) (Calls.evalArgs_plain ?_)
 exact aZ hA λus s2 ⟨vs,H2,I2,r2,q2⟩=>hm pins s2 σ H2 x vs v us Q I2 r1 r2 q2
end
noncomputable def NN (X:Cx)(id:String)(r:V->List V->Hp->VK->Prop):Prop:=
 ∀(pins:zzC) (s:Shared) (σ:St) (H:Hp) (x:V) (xs:List V) (v:Value) (us:List Value) (Q:VK),Inv X pins σ H s->RelV x v->Vals xs us->r x xs H Q->
  wpAny (model X.prog X.w) X.A (call (.builtin id) (v::us)) (EP X pins σ Q) X.xe s
theorem Vals.one:∀{x:V} {us:List Value},Vals [x] us->∃u,us=[u]/\RelV x u
 | _,_,.cons r .nil=>⟨_,rfl,r⟩
theorem Vals.eraseIdx:∀{xs:List V} {us:List Value} (i:Nat),Vals xs us->Vals (xs.eraseIdx i) (us.eraseIdx i)
 | _,_,_,.nil=>.nil
 | _,_,0,.cons _ t=>t
 | _,_,i+1,.cons r t=>.cons r (Vals.eraseIdx i t)
theorem Vals.reverse {xs:List V}{us:List Value}(h:Vals xs us):Vals xs.reverse us.reverse:=by
 induction h with
 | nil=>exact .nil
 | cons r t ih=>rw[List.reverse_cons,List.reverse_cons]; exact Vals.append ih (.cons r .nil)
theorem Vals.rep {xs:List V}{us:List Value}(h:Vals xs us):∀k:Nat,Vals (replicate k xs).flatten (replicate k us).flatten
 | 0=>.nil
 | k+1=>by
  rw[zCc,zCc,List.flatten_cons,List.flatten_cons]
  exact Vals.append h (Vals.rep h k)
theorem yW {α:Type}:∀(l:List α) (i:Nat),(l.eraseIdx i).length<=l.length
 | [],_=>x3 _
 | _::_,0=>Nat.le_succ _
 | _::r,i+1=>Nat.succ_le_succ (yW r i)
theorem foldl_rep (its:List Value):∀(k:Nat) (acc:List Value),
  foldl (λx1 x2=>x1++x2) acc.toArray (replicate k its.toArray)=(acc++(replicate k its).flatten).toArray
 | 0,acc=>by simp
 | k+1,acc=>by
  have e:acc.toArray++its.toArray=(acc++its).toArray:=by simp
  have e2:(acc++its)++(replicate k its).flatten=acc++(replicate (k+1) its).flatten:=by
   rw[zCc,List.flatten_cons,zA4]
  rw[←e2,←foldl_rep its k (acc++its),←e,zCc,foldl_cons]
section
variable {X:Cx}{pins:zzC}{σ:St}{H:Hp}{s:Shared}{l b:Addr}{xs ys zs:List V}
theorem Inv.IS {its its':List Value}{n:Nat}{f:Array Value->Array Value}{t':Nat}(I:Inv X pins σ H s)(hH:H l=some (.lst xs))
  (e:s.heap.get? l=some { cls:=.type "list",data:=.seq its.toArray n }) (hf:f its.toArray=its'.toArray) (hv:Vals ys its') (hz:ys.length<=sizeLine) :
  Inv X pins σ (upd H l (.lst ys)) { s with heap:=s.heap.update l (mapSeq f),toks:=t' }:=by
 have q:=PySem.IsL.update e f
 rw[hf] at q
 refine I.write (x:=l) (e:=l) (by rw[hH]; exact trivial) (.inl rfl) (λb' u hb hu=>(zBg s.heap (mapSeq f) (Ne.symm hb)).trans hu) ⟨_,q⟩ ?_
 exact⟨hz,its',_,hv,q⟩
theorem Inv.EG {its:List Value}{t':Nat}(I:Inv X pins σ H s)(hv:Vals ys its)(hz:ys.length<=sizeLine) :
  Inv X pins σ (upd H s.heap.objs.size (.lst ys)) { s with heap:=s.heap.push { cls:=.type "list",data:=.seq its.toArray },toks:=t' }:=
 I.laid (λ_ _ q=>y8 _ q) (x3 _) ⟨hz,its,0,hv,wE _ rfl⟩
theorem Inv.fresh (I:Inv X pins σ H s):H s.heap.objs.size=none:=I.hok.fresh (x3 _)
theorem Inv.u7 (I:Inv X pins σ H s)(hH:H l=some (.lst xs)):xs.length<=sizeLine/\∃(its:List Value) (n:Nat),Vals xs its/\xs.length=its.length/\s.heap.get? l=some { cls:=.type "list",data:=.seq its.toArray n }:=by
 obtain⟨z,its,n,r,e⟩:=I.hok l _ hH
 exact⟨z,its,n,r,r.length,e⟩
theorem AZ {n:Nat}(h:n<=sizeLine):Builtin.List.listTooLong n=false:=by
 unfold Builtin.List.listTooLong
 exact zAv (by omega)
end
section
variable {X:Cx}
noncomputable def xO:V->List V->Hp->VK->Prop:=λx vs H Q=>∃l xs y,x=.ref l/\vs=[y]/\H l=some (.lst xs)/\xs.length < sizeLine/\Q .bq (upd H l (.lst (xs++[y])))
theorem cT:NN X "list.append" xO:=by
 intro pins s σ H x vs v us Q I rx rv h
 obtain⟨l,xs,y,rfl,rfl,hH,hz,q⟩:=h
 cases rx
 obtain⟨u,rfl,ru⟩:=rv.one
 obtain⟨z,its,n,r,hl,e⟩:=I.u7 hH
 refine call_meets F.slot_list_append ⟨_,e,rfl⟩ F.entry_list_append (F.args_list_append_2 _ _) (PySem.list_append l its.toArray n u (by rw[zAe]; omega)) ⟨e,?_⟩
 refine⟨.bq,_,I.IS (its':=its++[u]) hH e (by simp) (r.append (.cons ru .nil)) ?_,rfl,q⟩
 rw[zAb,zC7]
 omega
noncomputable def Dk:V->List V->Hp->VK->Prop:=λx vs H Q=>∃l b xs zs,x=.ref l/\vs=[.ref b]/\H l=some (.lst xs)/\H b=some (.lst zs)/\xs.length+zs.length<=sizeLine/\Q .bq (upd H l (.lst (xs++zs)))
theorem yX:NN X "list.extend" Dk:=by
 intro pins s σ H x vs v us Q I rx rv h
 obtain⟨l,b,xs,zs,rfl,rfl,hH,hB,hz,q⟩:=h
 cases rx
 obtain⟨u,rfl,ru⟩:=rv.one
 cases ru
 obtain⟨z,its,n,r,hl,e⟩:=I.u7 hH
 obtain⟨z2,its2,n2,r2,hl2,e2⟩:=I.u7 hB
 have hsz:its.toArray.size+its2.toArray.size<=sizeLine:=by rw[zAe,zAe]; omega
 have EH:¬ (!its.toArray.isEmpty&&Builtin.List.listTooLong (its.toArray.size+its2.toArray.size))=true:=by
  rw[AZ hsz,Bool.and_false]
  exact zAf
 refine call_meets F.slot_list_extend ⟨_,e,rfl⟩ F.entry_list_extend (F.args_list_extend_2 _ _)
  (AutoSeq1.list_extend_list_list_0 l its.toArray n b its2.toArray n2 EH (by rw[zAe]; omega) (by omega)) ⟨e,e2,?_⟩
 refine⟨.bq,_,I.IS (its':=its++its2) hH e (by simp) (r.append r2) ?_,rfl,q⟩
 rw[zAb]
 omega
noncomputable def NO:V->List V->Hp->VK->Prop:=λx vs H Q=>∃l xs i k y,x=.ref l/\vs=[.int i]/\H l=some (.lst xs)/\-(2 ^ 63)<=i/\i < 2 ^ 63/\seqIndex? i xs.length=some k/\xs[k]?=some y/\Q y (upd H l (.lst (xs.eraseIdx k)))
theorem IT:NN X "list.pop" NO:=by
 intro pins s σ H x vs v us Q I rx rv h
 obtain⟨l,xs,i,k,y,rfl,rfl,hH,h1,h2,hk,hy,q⟩:=h
 cases rx
 obtain⟨u,rfl,ru⟩:=rv.one
 obtain⟨t,rfl⟩:=ru
 obtain⟨z,its,n,r,hl,e⟩:=I.u7 hH
 obtain⟨w,hw,rw'⟩:=r.get hy
 refine call_meets F.slot_list_pop ⟨_,e,rfl⟩ F.entry_list_pop (F.args_list_pop_2 _ _)
  (MeetsSeq.list_pop_at l its.toArray n i t k w (fitsIndex_both h1 h2) (by rw[zAe,←hl]; exact hk) (by rw[←zAc]; exact hw) (by rw[zAe]; omega)) ⟨e,?_⟩
 refine⟨y,_,I.IS (its':=its.eraseIdx k) hH e ?_ (r.eraseIdx k) ?_,rw',q⟩
 ·show its.toArray.eraseIdxIfInBounds k=(its.eraseIdx k).toArray
  rw[List.eraseIdxIfInBounds_toArray]
 ·have:=yW xs k
  omega
noncomputable def EI:R2:=λx y H Q=>∃l b xs zs,x=.ref l/\y=.ref b/\H l=some (.lst xs)/\H b=some (.lst zs)/\xs.length+zs.length<=sizeLine/\∀p,H p=none->Q (.ref p) (upd H p (.lst (xs++zs)))
theorem iZ:dz X (binaryOp .Add) EI:=by
 intro pins s σ H x y v u Q I rx ry h
 obtain⟨l,b,xs,zs,rfl,rfl,hH,hB,hz,q⟩:=h
 cases rx
 cases ry
 obtain⟨z,its,n,r,hl,e⟩:=I.u7 hH
 obtain⟨z2,its2,n2,r2,hl2,e2⟩:=I.u7 hB
 refine PySem.P.add_list e e2 ?_ (by rw[zAe,zAe]; omega)
 have ea:its.toArray++its2.toArray=(its++its2).toArray:=by simp
 rw[ea]
 exact⟨.ref _,_,I.EG (t':=s.toks) (r.append r2) (by rw[zAb]; omega),rfl,q _ I.fresh⟩
noncomputable def IU:R2:=λx y H Q=>∃l k xs,x=.ref l/\y=.int k/\H l=some (.lst xs)/\-(2 ^ 63)<=k/\k < 2 ^ 63/\xs.length * k.toNat<=sizeLine/\
 ∀p,H p=none->Q (.ref p) (upd H p (.lst (replicate k.toNat xs).flatten))
theorem len_rep {α:Type}(xs:List α)(k:Nat):(replicate k xs).flatten.length=k * xs.length:=by
 induction k with
 | zero=>simp
 | succ k ih=>rw[zCc,List.flatten_cons,zAb,ih,Nat.succ_mul,Nat.add_comm]
theorem Gb:dz X (binaryOp .Mult) IU:=by
 intro pins s σ H x y v u Q I rx ry h
 obtain⟨l,k,xs,rfl,rfl,hH,h1,h2,hz,q⟩:=h
 cases rx
 obtain⟨t,rfl⟩:=ry
 obtain⟨z,its,n,r,hl,e⟩:=I.u7 hH
 have hlen:its.toArray.size * k.toNat<=sizeLine:=by rw[zAe,←hl]; exact hz
 have hcap:¬ its.toArray.size * k.toNat > (2 ^ 63 - 1) / 8:=by
  have:(sizeLine:Nat)<=(2 ^ 63 - 1) / 8:=by decide
  omega
 have hfit:¬ (!Builtin.List.listFitsIndex k)=true:=by
  rw[fitsIndex_both h1 h2]
  exact zAf
 have EH:¬ Builtin.List.listTooLong (its.toArray.size * k.toNat)=true:=by
  rw[AZ hlen]
  exact zAf
 have hnew:foldl (λx1 x2=>x1++x2) #[] (replicate (if its.toArray.isEmpty=true then 0 else k.toNat) its.toArray)=(replicate k.toNat its).flatten.toArray:=by
  have f0:∀m:Nat,foldl (λx1 x2=>x1++x2) #[] (replicate m its.toArray)=(replicate m its).flatten.toArray:=λm=>by
   have:=foldl_rep its m []
   rw[List.nil_append] at this
   exact this
  rw[f0]
  cases its with
  | nil=>simp
  | cons a r'=>rw[xL (by simp)]
 refine wpAny_binaryOp_repeat_ref (T:="list") (U:="int") (by decide) ⟨_,e,rfl⟩ (λs'=>typeIs_int s' k t) noFill_list_mul F.fills_int_mul F.slot_int_rmul repeat_list F.slot_int_index.lookup
  (call_meets F.slot_int_rmul (typeIs_int s k t) F.entry_int_rmul (F.args_int_rmul_2 _ _) (int___rmul___int_list k t l its.toArray n)
   ⟨e,rfl,⟨_,e,rfl⟩,call_meets F.slot_list_mul ⟨_,e,rfl⟩ F.entry_list_mul (F.args_list_mul_2 _ _) (AutoListH.list___mul___list_int_3 l its.toArray n k t hfit hcap EH) ⟨e,?_⟩⟩)
 rw[hnew]
 exact⟨.ref _,_,I.EG (t':=s.toks) (r.rep k.toNat) (by rw[len_rep,Nat.mul_comm]; exact hz),rfl,q _ I.fresh⟩
end
section
variable {prog:Program}{w:World}{A:Around}{E:zzE}{s:Shared}
end
section
variable {X:Cx}
end
end L2
namespace Ry
open PySem PySem.W PySem.Calls PyProof.Rows
theorem vS {P:Params}{h:Heap}:∀(ns:List Int) (vs:List Value),WellAll P h vs (ns.map WData.int)->IntsAre vs ns:=by
 intro ns
 induction ns with
 | nil=>
  intro vs w
  rw[map_nil] at w
  cases w
  exact .nil
 | cons n ns ih=>
  intro vs w
  rw[zAo] at w
  cases w with
  | cons a b=>
   cases a
   exact .cons _ _ (ih _ b)
theorem Ge {l:OpenLaw}{n:Nat}(hn:l.most=some n){P:Params}{h:Heap}{args:List WData}{vals:List Value}
  (hpre:l.row.toRowW.claim.pre args=true) (hwl:WellAll P h vals args) :
  ∃a vs ns,vals=[Value.ref a]/\args=[WData.list (ns.map WData.int)]/\h.get? a=some { cls:=.type "list",data:=.seq vs.toArray }/\IntsAre vs ns/\ns.length<=n:=by
 have hsh:WShape.hasAll [] args [.list .int]=true:=(pre_splitW hpre).1
 have hc:l.pre.holds [] { args:=args }=true:=(pre_splitW hpre).2
 obtain⟨d,r,rfl,h1,h2⟩:=hasAllW_cons hsh
 obtain rfl:=hasAllW_nil h2
 obtain⟨xs,rfl,h3⟩:=hasW_list h1
 obtain⟨ns,rfl⟩:=items_int h3
 have hlen:ns.length<=n:=by
  unfold OpenLaw.pre at hc
  have h4:(WTm.not (.lt (.lit (.int (n:Int))) (.len (.arg 0)))).holds [] { args:=[.list (ns.map .int)] }=true:=by
   have h4:=(holds_andW hc).1
   rw[hn] at h4
   exact h4
  have h5:=condW_of h4 (w_not (w_lt w_lit (w_len_list (w_arg rfl))))
  rw[y3] at h5
  refine Nat.le_of_not_lt λq=>?_
  have q':(n:Int) < ((ns.length:Nat):Int):=by omega
  first
   | (rw[zAm q'] at h5; exact absurd h5 (by decide))
   | (simp at h5; omega)
 cases hwl with
 | cons w1 w2=>
  cases w2
  cases w1 with
  | list ho hall=>exact⟨_,_,ns,rfl,rfl,ho,vS ns _ hall,hlen⟩
theorem Gf (l:OpenLaw)(args:List WData):l.row.toRowW.claim.post args (.bool true) args=true:=
 postW_of (r:=l.row.toRowW) (X:=(true == true))
  (show WShape.has [] (.bool true) .bool=true by first | rfl | decide | simp [WShape.has,WShape.arms,WShape.armsAll])
  (show (WTm.eq .res (.lit (.bool true))).value [] { args:=args,res:=some (.bool true),after:=args }=some (.bool (true == true)) from w_eq_bool (w_res rfl) w_lit) rfl
theorem CL {l:OpenLaw}{n:Nat}{q:Program}{loose:List Str}{XP:(Str->Option Value)->Heap->Prop}{YP:World->Heap->Prop}{d:DefRec}
  (hn:l.most=some n) (hdf:d.params.defaults=[])
  (call:∀(w:World) (s₀ s₁:Shared) (mg mb:Str->Option Value) (fa:Addr) (o:Obj) (pm cd doc:Value) (a:Addr) (vs:List Value) (ns:List Int),
   Ground q loose [] XP w s₀ mg mb s₁.heap->YP w s₁.heap->
   s₁.heap.get? fa=some o->o.data=.func (docDef d.name d.params d.body d.scope pm cd doc)->s₁.heap.CodeRec cd d.name->mg d.name=some (.ref fa)->
   s₁.heap.get? a=some { cls:=.type "list",data:=.seq vs.toArray }->IntsAre vs ns->ns.length<=n->s₁.gens=#[]->
   codeAny (model l.prog w) callerA (.call (.ref fa) ⟨[.ref a],[]⟩) (λr s'=>r=.ok (.ret (.bool true))/\OldK s₁.heap s'.heap/\s'.os=s₁.os/\AllBare s'.gens) s₁) :
  WalkO q loose XP YP l.row.toRowW d [] (λf vs=>PySem.call f vs):=by
 intro w s₀ s₁ mg mb G Y fa o pm cd doc dV kV ho hd hcd hD hmg hg args vals as hpre hlay hrd hwl hlo
 obtain rfl:dV=.none:=Dflts.none hD hdf
 obtain rfl:kV=.none:=Dflts.noKw hD
 obtain⟨a,vs,ns,rfl,rfl,hobj,hints,hlen⟩:=Ge hn hpre hwl
 refine enter_call (codeAny_mono (call w s₀ s₁ mg mb fa o pm cd doc a vs ns G Y ho (fd_plain hd) hcd hmg hobj hints hlen hg) λr s' hq=>?_)
 obtain⟨rfl,h2,h3,h4⟩:=hq
 exact⟨.inl ⟨.bool true,.bool true,[],rfl,λ_=>rfl,.bool true,Gf l _,λ_=>⟨List.Pairwise.nil,λ_ hm=>(nomatch hm)⟩⟩,h2,h3,h4⟩
section
variable {prog:Program}{w:World}{A:Around}{E:zzE}{s:Shared}{K:Frag}
end
end Ry
namespace L2
open PySem PySem.Spec PyProof.Rows
theorem yY:∀{vs:List Value} {ns:List Int},IntsAre vs ns->Vals (ns.map V.int) vs
 | _,_,.nil=>.nil
 | _,_,.cons n t h=>.cons ⟨t,rfl⟩ (yY h)
noncomputable def IV (H:Hp):Prop:=∀b,H b=none\/∃o xs,H b=some (.rm o (.lst xs))
theorem IW {P:Program}{w:World}{K:zzA}{mg mb:Str->Option Value}{CX:o9}{k:Nat}{fa a:Addr}{fd:FuncData}{x:Str}{sp:Sp}{s₁:Shared}{vs:List Value}{ns:List Int}
  (KX:K.In s₁.heap) (hns:s₁.heap.Ns mainGlobals mg) (hb:s₁.heap.Ns builtinsNs mb) (hbb:∀x:Str,x≠"__name__"->mb x=bootBuiltins x) (hlim:s₁.heap.NoLimit) (hg:s₁.gens=#[])
  (ha:s₁.heap.get? a=some { cls:=.type "list",data:=.seq vs.toArray }) (hi:IntsAre vs ns) (hl:ns.length<=sizeLine) (hr:fM k callerA)
  (F:∀base:Heap,K.In base->base.Ns mainGlobals mg->bx P w K mg base CX k fa fd [x] sp) (hbind:∀(s:Shared) (u:Value),BindsTo s fd ⟨[u],[]⟩ [(x,u)])
  (hsp:∀H:Hp,IV H->aD K H a (ns.map V.int)->sp [.ref a] H (λv _=>v=.bl true) λ_ _ _=>False)
  (hCX:∀H e s',CX [] H s₁ (λ_ _ _=>False) e s'->False) :
  codeAny (model P w) callerA (.call (.ref fa) ⟨[.ref a],[]⟩) (λr s'=>r=.ok (.ret (.bool true))/\OldK s₁.heap s'.heap/\s'.os=s₁.os/\AllBare s'.gens) s₁:=by
 have rv:=yY hi
 have Tc:=hi.length
 have core:∀H:Hp,IV H->aD K H a (ns.map V.int)->g_ P w H s₁.heap->(∀b,H b≠none->b=a)->(H a≠none->K.lookup a=none)->
   codeAny (model P w) callerA (.call (.ref fa) ⟨[.ref a],[]⟩) (λr s'=>r=.ok (.ret (.bool true))/\OldK s₁.heap s'.heap/\s'.os=s₁.os/\AllBare s'.gens) s₁:=by
  intro H hO hS hok hA hK
  have Dl:∀{b:Addr} {o:Obj},s₁.heap.get? b=some o->H b=none->(p_ s₁.heap H).get? b=some o:=λe n=>IA e n
  have noA:∀{b:Addr} {o:Obj} {es:Array DictEntry} {ep:Nat},s₁.heap.get? b=some o->o.data=.dict es ep->H b=none:=λ{b o es ep} e d=>by
   cases q:H b with
   | none=>rfl
   | some u=>
    have e':b=a:=hA b (by rw[q]; simp)
    subst e'
    rw[ha] at e; cases e
    have d':Data.seq vs.toArray _=Data.dict es ep:=d
    cases d'
  have nsK:∀{b:Addr} {m:Str->Option Value},s₁.heap.Ns b m->(p_ s₁.heap H).Ns b m:=λ{b m} ⟨o,es,ep,e,d,r⟩=>⟨o,es,ep,Dl e (noA e d),d,r⟩
  have Rz:K.In (p_ s₁.heap H):=λb o e=>Dl (KX b o e) (by
   cases q:H b with
   | none=>rfl
   | some u=>
    have e':b=a:=hA b (by rw[q]; simp)
    subst e'
    rw[hK (by rw[q]; simp)] at e; cases e)
  have hM:Mod K mg (p_ s₁.heap H):=⟨Rz,nsK hns,⟨mb,nsK hb,hbb⟩,let ⟨mc,h1,h2⟩:=hlim; ⟨mc,nsK h1,h2⟩⟩
  have e0:EA P w K mg (p_ s₁.heap H) callerA [] s₁ H:=⟨rfl,hM,λb o e=>LI e,Nat.le_of_eq (FW _ _),trivial,λb hb=>absurd (show b∈([]:List Addr) from hb) (by simp),hok,.of_eq hg⟩
  refine codeAny_mono ((F _ Rz (nsK hns)).run callerA [] s₁ H ⟨[.ref a],[]⟩ [.ref a] [.ref a] _ _ hr e0 (hbind s₁ (.ref a)) (.cons rfl .nil) (hsp H hO hS)) λr s' h=>?_
  cases r with
  | error e=>exact (hCX H e s' h).elim
  | ok fl=>
   cases fl with
   | next=>exact False.elim h
   | brk=>exact False.elim h
   | cont=>exact False.elim h
   | ret u=>
    obtain⟨v,H',os,bare,un,Td,r',q⟩:=h
    have q':v=.bl true:=q
    subst q'
    obtain rfl:u=Value.bool true:=r'
    refine⟨rfl,OldK.of_keep λb o e=>?_,os,bare⟩
    cases q:H b with
    | none=>exact un.keep b o e q (by intro z; exact absurd (show b∈([]:List Addr) from z) (by simp)) (by simp)
    | some u=>
     rcases hO b with z | ⟨ob,xs,z⟩
     ·rw[q] at z; cases z
     ·have z2:=un.oU b ob _ z
      obtain⟨e1,_⟩:=hok b _ z
      obtain⟨e2,_⟩:=Td b _ z2
      rw[e] at e1; cases e1
      exact e2
 cases hk:K.lookup a with
 | some o=>
  have e:=KX a o hk
  rw[ha] at e
  cases e
  refine core (λ_=>none) (λ_=>.inl rfl) (.inr ⟨_,vs.toArray,_,hk,rfl,rfl,rfl,by rw[zAe,Tc]; exact hl,by simpa using rv⟩) (λb u z=>by have z':(none:Option HO)=some u:=z; cases z') (λb z=>absurd rfl z) λz=>absurd rfl z
 | none=>
  refine core (λb=>if b=a then some (.rm { cls:=.type "list",data:=.seq vs.toArray } (.lst (ns.map V.int))) else none) (λb=>?_) (.inl (.inr ⟨{ cls:=.type "list",data:=.seq vs.toArray },x4 rfl⟩)) (λb u z=>?_) (λb z=>?_) λ_=>hk
  ·by_cases hb:b=a
   ·exact .inr ⟨_,_,x4 hb⟩
   ·exact .inl (xL hb)
  ·by_cases hb:b=a
   ·have z':=(x4 hb).symm.trans z
    cases z'
    subst hb
    exact⟨ha,by rw[y3]; exact hl,vs,_,rv,ha⟩
   ·have z':=(xL hb).symm.trans z
    cases z'
  ·by_cases hb:b=a
   ·exact hb
   ·exact absurd (xL hb) z
theorem LS {l:PySem.W.OpenLaw}{n k:Nat}{q:Program}{loose:List Str}{XP:(Str->Option Value)->Heap->Prop}{YP:World->Heap->Prop}{d:DefRec}{K:Params->zzA}{CX:World->o9}{sp:World->Sp}{x:Str}
  (hn:l.most=some n) (hn2:n<=sizeLine) (hdf:d.params.defaults=[]) (hr:fM k callerA)
  (hY:∀(w:World) (h:Heap),YP w h->(K w.params).In h)
  (F:∀(w:World) (mg:Str->Option Value) (fa:Addr) (h:Heap),(K w.params).In h->h.Ns mainGlobals mg->mg d.name=some (.ref fa)->
   ∃fd:FuncData,(∀(s:Shared) (u:Value),BindsTo s fd ⟨[u],[]⟩ [(x,u)])/\
    ∀base:Heap,(K w.params).In base->base.Ns mainGlobals mg->bx l.prog w (K w.params) mg base (CX w) k fa fd [x] (sp w))
  (hsp:∀(w:World) (H:Hp) (a:Addr) (ns:List Int),ns.length<=n->IV H->aD (K w.params) H a (ns.map V.int)->sp w [.ref a] H (λv _=>v=.bl true) λ_ _ _=>False)
  (hCX:∀(w:World) (H:Hp) (s:Shared) (e:Value) (s':Shared),CX w [] H s (λ_ _ _=>False) e s'->False) :
  PySem.W.WalkO q loose XP YP l.row.toRowW d [] (λf vs=>PySem.call f vs):=by
 refine Ry.CL hn hdf λw s₀ s₁ mg mb fa o pm cd doc a vs ns G Y ho hd hcd hmg hobj hints hlen hg=>?_
 have KX:=hY w _ Y
 obtain⟨fd,hb,hF⟩:=F w mg fa _ KX G.T.g hmg
 exact IW KX G.T.g G.T.b G.T.builtins G.T.nolimit hg hobj hints (zAu hlen hn2) hr hF hb (λH hO hS=>hsp w H a ns hlen hO hS) λH e s'=>hCX w H s₁ e s'
def eS (s:Stmt):Arguments:=match s with
 | .FunctionDef _ a _ _ _ _ _ _ _ _=>a
 | _=>{ posonlyargs:=[],args:=[],vararg:=none,kwonlyargs:=[],kw_defaults:=[],kwarg:=none,defaults:=[] }
def dW (s:Stmt):List Stmt:=match s with
 | .FunctionDef _ _ b _ _ _ _ _ _ _=>b
 | _=>[]
def aI (s:Stmt):Scope:=match s with
 | .FunctionDef _ _ _ _ _ _ sc _ _ _=>sc
 | _=>{ kind:=.function,names:=[],isGenerator:=false,isCoroutine:=false }
abbrev cA:o9:=λ_ _ _ _ _ _=>False
abbrev E0:XK:=λ_ _ _=>False
theorem aL {X:Cx}:Passes cA X E0:=λ_ _ _ _ _ _ _ h=>h.elim
structure pA (K:zzA)(x qual:Str)(st:Stmt)(f:Addr)(fd:FuncData):Prop where
 ex:∃(oc:Value) (od:Option Addr) (kV doc pm:Value) (an:Option Addr) (cdv ct:Value) (osl:Array (Option Value)),
  fd=PySem.W.fnOf x qual (eS st) (dW st) (aI st) .none kV doc pm an cdv ct/\K.lookup f=some ⟨oc,od,.func fd,osl⟩/\PySem.W.codeIn K cdv qual=true
 kp:PySem.W.keepIn K (.ref f)=true
section
variable {P:Program}{w:World}{K:zzA}{mg:Str->Option Value}{base:Heap}
theorem pA.ok {x qual:Str}{st:Stmt}{f:Addr}{fd:FuncData}{N ps:List Str}{k:Nat}{sp:Sp}(F:pA K x qual st f fd)(S:aQ N ps (aI st))(len:∀vs H Q E,sp vs H Q E->vs.length=ps.length)
  (hbody:∀(cdv:Value) (A:Around) (outer:List Env) (s:Shared) (H:Hp) (vs:List V) (Q:VK) (E:XK),fM k (A.deeper (envOfC qual (aI st) s.heap.objs.size f cdv))->sp vs H Q E->
   ∃t,qw (xJ cA P w K mg base N qual (aI st) f cdv A outer s H E).Kf (dW st) t/\t { nx:=λ_ H'=>Q .bq H',rt:=Q } (start N vs) H):bx P w K mg base cA (k+1) f fd ps sp:=by
 obtain⟨oc,od,kV,doc,pm,an,cdv,ct,osl,rfl,lk,hcd⟩:=F.ex
 refine QH lk hcd S len λA outer s H vs Q E hr hsp=>?_
 obtain⟨t,h,q⟩:=hbody cdv A outer s H vs Q E hr hsp
 exact⟨t,h.Kf,q⟩
theorem pA.binds {x qual:Str}{st:Stmt}{f:Addr}{fd:FuncData}{ps:List Str}(F:pA K x qual st f fd)
  (h:∀(kV doc pm:Value) (an:Option Addr) (cdv ct:Value) (us:List Value),us.length=ps.length->bindArgs (PySem.W.fnOf x qual (eS st) (dW st) (aI st) .none kV doc pm an cdv ct) ⟨us,[]⟩=pure (ps.zip us)):Binds K fd ps []:=by
 obtain⟨oc,od,kV,doc,pm,an,cdv,ct,osl,rfl,lk,hcd⟩:=F.ex
 exact .all (h kV doc pm an cdv ct)
theorem NP {x qual:Str}{st:Stmt}{f:Addr}{oc:Value}{od an:Option Addr}{osl:Array (Option Value)}{kV doc pm cdv ct:Value}(l:K.lookup f=some ⟨oc,od,.func (PySem.W.fnOf x qual (eS st) (dW st) (aI st) .none kV doc pm an cdv ct),osl⟩)
  (c:PySem.W.codeIn K cdv qual=true) (k:PySem.W.keepIn K (.ref f)=true):pA K x qual st f (PySem.W.fnOf x qual (eS st) (dW st) (aI st) .none kV doc pm an cdv ct):=⟨⟨oc,od,kV,doc,pm,an,cdv,ct,osl,rfl,l,c⟩,k⟩
end
section
variable {X:Cx}
theorem pv (i:Nat){x:Str}{pos:Pos}(hN:X.N[i]?=some x:=by rfl)(hv:J9 X.env.scope x:=by first | exact Or.inl rfl | exact Or.inr (Or.inl rfl) | exact Or.inr (Or.inr rfl))(hd:(x == ("__debug__":Str))=false:=by decide)
  (hcd:(x == ("__classdict__":Str))=false:=by decide):PE X (.Name x pos) (fB i):=Nh hN hv hd hcd
end
noncomputable def ai (H H':Hp):Prop:=∀b o,H b=some o->H' b=some o
theorem ai.refl (H:Hp):ai H H:=λ_ _ h=>h
theorem ai.trans {H H1 H2:Hp}(a:ai H H1)(b:ai H1 H2):ai H H2:=λc o h=>b c o (a c o h)
theorem ai.free {H H':Hp}(e:ai H H'){l:Addr}(h:H' l=Option.none):H l=Option.none:=by
 cases q:H l with
 | none=>rfl
 | some o=>
  rw[e l o q] at h
  cases h
theorem ai.seq {K:zzA}{H H':Hp}{a:Addr}{xs:List V}(e:ai H H')(h:aD K H a xs):aD K H' a xs:=by
 rcases h with (h | ⟨o,h⟩) | h
 ·exact .inl (.inl (e _ _ h))
 ·exact .inl (.inr ⟨o,e _ _ h⟩)
 ·exact .inr h
end L2
namespace TB
open PySem PySem.Spec PySem.W PyProof.Rows
section
variable {prog:Program}{w:World}{A:Around}{E:zzE}{s:Shared}
theorem pB {k:Int}{v:Value}(h:(intKind prog w).is k v=true):∃t,v=.int k t:=Value.isInt_shape (k:=k) (v:=v) h
theorem Gg {fl fin:Bool}{Q:Bool->Shared->Prop}:∀{x y:List Int} {xs ys:List Value} (i:Nat),ItemsAre (intKind prog w) x xs->ItemsAre (intKind prog w) y ys->fin=decide (xs.length < ys.length)->Q (HT.lexLt x y) s->KatLex prog w A fl fin Q (xs.zip ys) i s
 | [],[],_,_,i,.nil,.nil,hf,h=>by
  subst hf
  exact kat_nil h
 | [],_::_,_,_,i,.nil,.cons _ _,hf,h=>by
  subst hf
  refine kat_nil ?_
  rw[HT.o_] at h
  simpa using h
 | _::_,[],_,_,i,.cons _ _,.nil,hf,h=>by
  subst hf
  refine kat_nil ?_
  rw[HT.pe] at h
  simpa using h
 | a::x,b::y,_,_,i,.cons h1 t1,.cons h2 t2,hf,h=>by
  rw[List.zip_cons_cons]
  refine kat_cons ((intKind prog w).eqBool (a:=a) (b:=b) h1 h2 ?_)
  obtain⟨t,rfl⟩:=pB h1
  obtain⟨u,rfl⟩:=pB h2
  rw[HT.iF] at h
  by_cases c:a=b
  ·rw[zAm c]
   rw[x4 c] at h
   exact kat_yes (Gg (i+1) t1 t2 (by rw[hf]; simp) h)
  ·rw[zAv c]
   rw[xL c] at h
   refine kat_no ?_
   cases e:(fl&&i == 0) with
   | true=>exact oneLt_int h
   | false=>exact kat_one _ _ (lt_int h)
theorem NQ {x y:List Int}{a b:Addr}{fl:Bool}{Q:Bool->Shared->Prop}(hx:IsTupleKey (intKind prog w) s.heap x a)(hy:IsTupleKey (intKind prog w) s.heap y b)(h:Q (HT.lexLt x y) s):wpAny (model prog w) A (keyLt' (tuples' fl) (.ref a) (.ref b)) Q E s:=by
 obtain⟨o,xs,n,ho,_,hd,hi⟩:=hx
 obtain⟨o',ys,n',ho',_,hd',hi'⟩:=hy
 exact kat_lt ho hd ho' hd' (Gg 0 hi hi' (by simp) h)
theorem lex_irrefl:∀x:List Int,HT.lexLt x x=false
 | []=>rfl
 | a::x=>by rw[HT.iF,x4 rfl,lex_irrefl x]
theorem lex_trans:∀{x y z:List Int},HT.lexLt x y=true->HT.lexLt y z=true->HT.lexLt x z=true
 | [],[],_,h,_=>by cases h
 | [],_::_,[],_,h=>by cases h
 | [],_::_,_::_,_,_=>rfl
 | _::_,[],_,h,_=>by cases h
 | _::_,_::_,[],_,h=>by cases h
 | a::x,b::y,c::z,h1,h2=>by
  rw[HT.iF] at h1 h2 ⊢
  by_cases e1:a=b
  ·rw[x4 e1] at h1
   by_cases e2:b=c
   ·rw[x4 e2] at h2
    rw[x4 (e1.trans e2)]
    exact lex_trans h1 h2
   ·rw[xL e2] at h2
    rw[xL (by rw[e1]; exact e2),e1]
    exact h2
  ·rw[xL e1] at h1
   have l1:a < b:=by simpa using h1
   by_cases e2:b=c
   ·rw[xL (by rw[←e2]; exact e1),←e2]
    exact h1
   ·rw[xL e2] at h2
    have l2:b < c:=by simpa using h2
    rw[xL (by omega)]
    simpa using (show a < c by omega)
theorem rH:∀x y:List Int,x≠y->HT.lexLt x y=true\/HT.lexLt y x=true
 | [],[],h=>absurd rfl h
 | [],_::_,_=>.inl rfl
 | _::_,[],_=>.inr rfl
 | a::x,b::y,h=>by
  rw[HT.iF,HT.iF]
  by_cases e:a=b
  ·rw[x4 e,x4 e.symm]
   exact rH x y λz=>h (by rw[e,z])
  ·rw[xL e,xL (Ne.symm e)]
   rcases Int.lt_or_gt_of_ne e with q | q
   ·exact .inl (by simpa using q)
   ·exact .inr (by simpa using q)
abbrev rf (p:Addr × List Int):Value:=.ref p.1
theorem A0:∀ps:zzD,(∀p∈ps,IsTupleKey (intKind prog w) s.heap p.2 p.1)->(∀p∈ps,p.2≠[])->∃fs,KatTups s.heap (ps.map rf) fs/\fs.length=ps.length/\∀v∈fs,∃k t,v=Value.int k t
 | [],_,_=>⟨[],KatTups.nil,rfl,λv hv=>by cases hv⟩
 | p::ps,ht,hn=>by
  obtain⟨fs,h1,h2,h3⟩:=A0 ps (λq hq=>ht q (zAr _ hq)) λq hq=>hn q (zAr _ hq)
  obtain⟨o,items,n,ho,hc,hd,hi⟩:=ht p zAs
  have hne:=hn p zAs
  obtain⟨k,r,e⟩:∃k r,p.2=k::r:=by
   cases c:p.2 with
   | nil=>exact absurd c hne
   | cons k r=>exact⟨k,r,rfl⟩
  rw[e] at hi
  obtain⟨l⟩:=items
  cases hi with
  | @cons _ v _ vs hk hr=>
   obtain⟨t,rfl⟩:=pB hk
   refine⟨.int k t::fs,KatTups.cons ho hc hd (by simp) h1,by simp [h2],λv hv=>?_⟩
   rcases wS.mp hv with rfl | hv
   ·exact⟨k,t,rfl⟩
   ·exact h3 v hv
end
noncomputable def G (rk:Keyed->Nat)(xs:Array Keyed)(i:Nat):Nat:=(xs[i]?).elim 0 rk
theorem eT {rk:Keyed->Nat}{xs ys:Array Keyed}{i j:Nat}(h:xs[i]?=ys[j]?):G rk xs i=G rk ys j:=by unfold G; rw[h]
theorem fN {rk:Keyed->Nat}{xs:Array Keyed}{i:Nat}{p:Keyed}(h:xs[i]?=some p):G rk xs i=rk p:=by unfold G; rw[h]; rfl
structure Rk (M:Model)(A:Around)(E:zzE)(s:Shared)(κ:SortKind)(a0:Array Keyed)(rk:Keyed->Nat):Prop where
 lt:∀(st:SortSt) (x y:Keyed) (Q:Option Bool->SortSt->Prop),kindOf st=κ->x∈a0.toList->y∈a0.toList->Q (some (decide (rk x < rk y))) st->wpS M A E s (lt' x y) Q st
 nd:(a0.toList.map rk).Nodup
structure e_ (κ:SortKind)(a0:Array Keyed)(st:SortSt):Prop where
 kind:kindOf st=κ
 failed:failedOf st=none
 perm:(arrOf st).Perm a0
noncomputable def Up (rk:Keyed->Nat)(xs:Array Keyed)(a b:Nat):Prop:=∀i j,a<=i->i < j->j < b->G rk xs i < G rk xs j
section
variable {M:Model}{A:Around}{E:zzE}{s:Shared}{κ:SortKind}{a0:Array Keyed}{rk:Keyed->Nat}{st:SortSt}
theorem e_.size (h:e_ κ a0 st):(arrOf st).size=a0.size:=h.perm.size_eq
theorem e_.set (h:e_ κ a0 st){xs:Array Keyed}(p:xs.Perm (arrOf st)):e_ κ a0 (setArr st xs):=⟨h.kind,h.failed,p.trans h.perm⟩
theorem e_.at_ (h:e_ κ a0 st){i:Nat}(hi:i < a0.size):∃x,(arrOf st)[i]?=some x/\x∈a0.toList:=by
 have hi':i < (arrOf st).size:=by rw[h.size]; exact hi
 exact⟨(arrOf st)[i],zCs _ i hi',(zC1.mp h.perm).mem_iff.mp (by simp)⟩
theorem e_.ne (R:Rk M A E s κ a0 rk)(h:e_ κ a0 st){i j:Nat}(hi:i < a0.size)(hj:j < a0.size)(e:G rk (arrOf st) i=G rk (arrOf st) j):i=j:=by
 have nd:((arrOf st).toList.map rk).Nodup:=((zC1.mp h.perm).map rk).nodup_iff.mpr R.nd
 have sz:=h.size
 have g:∀k (hk:k < a0.size),((arrOf st).toList.map rk)[k]?=some (G rk (arrOf st) k):=λk hk=>by
  obtain⟨x,hx,_⟩:=h.at_ hk
  rw[wP,zAc,hx,fN hx]
  rfl
 refine (List.getElem?_inj (by simp [sz]; exact hi) nd).mp ?_
 rw[g i hi,g j hj,e]
theorem vU (R:Rk M A E s κ a0 rk)(h:e_ κ a0 st){i j:Nat}{Q:Option Bool->SortSt->Prop}(hi:i < a0.size)(hj:j < a0.size)(hq:Q (some (decide (G rk (arrOf st) i < G rk (arrOf st) j))) st):wpS M A E s (ltAt' i j) Q st:=by
 obtain⟨x,hx,mx⟩:=h.at_ hi
 obtain⟨y,hy,my⟩:=h.at_ hj
 rw[fN hx,fN hy] at hq
 rw[ltAt'_eq]
 refine v6 (wpS_get ?_)
 show wpS _ _ _ _ (do let x ←elem' (arrOf st) i; let y ←elem' (arrOf st) j; lt' x y) Q st
 rw[elem'_eq,elem'_eq,hx,hy]
 exact v6 (zAa (v6 (zAa (R.lt st x y Q h.kind mx my hq))))
theorem Up.snoc {xs:Array Keyed}{a b:Nat}(h:Up rk xs a b)(hb:a < b->G rk xs (b - 1) < G rk xs b):Up rk xs a (b+1):=λi j h1 h2 h3=>by
 by_cases e:j=b
 ·subst e
  have:=hb (by omega)
  by_cases e2:i=j - 1
  ·rw[e2]; exact this
  ·exact zD6 (h i (j - 1) h1 (by omega) (by omega)) this
 ·exact h i j h1 h2 (by omega)
theorem NR {i j:Nat}{Q:Unit->SortSt->Prop}(h:Q () (setArr st (mirror (arrOf st) i j ((j - i) / 2)))):wpS M A E s (reverseSlice' i j) Q st:=by
 rw[reverseSlice'_eq]; exact zEe h
theorem NS {i j:Nat}{Q:Unit->SortSt->Prop}(h:Q () (setArr st (bubble (arrOf st) i (i - j)))):wpS M A E s (moveDown' i j) Q st:=by
 rw[moveDown'_eq]; exact zEe h
theorem IX (R:Rk M A E s κ a0 rk)(hS:e_ κ a0 st){lo nrem:Nat}{Q:Option Nat->SortSt->Prop}(hn:lo+nrem<=a0.size)(h1:1<=nrem)
  (h:∀m xs,xs.Perm (arrOf st)->(∀k:Nat,k < lo->xs[k]?=(arrOf st)[k]?)->1<=m->m<=nrem->Up rk xs lo (lo+m)->Q (some m) (setArr st xs)):wpS M A E s (countRun' lo nrem) Q st:=by
 have sz:=hS.size
 rw[countRun'_eq]
 have asc:∀(st1:SortSt) (a:Nat),e_ κ a0 st1->1<=a->a<=nrem->Up rk (arrOf st1) lo (lo+a)->∀{Q':Option (Option Nat) × Nat->SortSt->Prop},(∀m,a<=m->m<=nrem->Up rk (arrOf st1) lo (lo+m)->(m < nrem->G rk (arrOf st1) (lo+m) < G rk (arrOf st1) (lo+m - 1))->Q' (none,m) st1)->
   wpS M A E s (forIn [a:nrem] ((none,a):Option (Option Nat) × Nat) λ_ r=>do
    let x ←ltAt' (lo+r.2) (lo+r.2 - 1)
    match x with
    | some b=>if b=true then pure (ForInStep.done (none,r.2)) else pure (ForInStep.yield (none,r.2+1))
    | _=>pure (ForInStep.done (some none,r.2))) Q' st1:=by
  intro st1 a hS1 ha1 ha u Q' hQ
  refine zB0 (I:=λx c st'=>c=(none,x)/\st'=st1/\Up rk (arrOf st1) lo (lo+x)) (λx c st' uu yZ hI=>?_) (λc st' hI=>?_) ⟨rfl,rfl,u⟩
  ·obtain⟨rfl,rfl,hu⟩:=hI
   refine v6 (vU R hS1 (by omega) (by omega) ?_)
   by_cases c:G rk (arrOf st') (lo+x) < G rk (arrOf st') (lo+x - 1)
   ·rw[zAm c]
    exact zAa (hQ x uu (by omega) hu λ_=>c)
   ·rw[zAv c]
    refine zAa ⟨rfl,rfl,hu.snoc λhb=>?_⟩
    rcases zCq (G rk (arrOf st') (lo+x - 1)) (G rk (arrOf st') (lo+x)) with z | z
    ·exact z
    ·have:=hS1.ne R (i:=lo+x) (j:=lo+x - 1) (by omega) (by omega) (by omega)
     omega
  ·obtain⟨rfl,rfl,hu⟩:=hI
   rw[zB8 ha] at hu ⊢
   exact hQ nrem ha (x3 _) hu λz=>absurd z (by omega)
 refine v6 (asc st 1 hS (x3 _) h1 (λi j _ _ _=>by omega) λm m1 m2 u d=>?_)
 dsimp only
 by_cases e:(m == nrem)=true
 ·rw[x4 e]
  exact zAa (h m (arrOf st) (Array.Perm.refl _) (λ_ _=>rfl) m1 m2 u)
 rw[xL e]
 have m3:m < nrem:=by
  have:m≠nrem:=λz=>e (by rw[z]; exact beq_self_eq_true _)
  omega
 by_cases c1:m > 1
 ·rw[x4 c1]
  refine v6 (vU R hS (by omega) (by omega) ?_)
  rw[zAm (u lo (lo+m - 1) (x3 _) (by omega) (by omega))]
  exact zAa (h m (arrOf st) (Array.Perm.refl _) (λ_ _=>rfl) m1 m2 u)
 rw[xL c1]
 have em:m=1:=by omega
 subst em
 refine v6 (wpS_lift (zCo ⟨rfl,?_⟩))
 refine v6 (zDl (zB0 (I:=λx c st'=>c=(none,x,0)/\st'=st/\∀i j,lo<=i->i < j->j < lo+x->G rk (arrOf st) j < G rk (arrOf st) i) (Q:=λc st'=>∃x,c=(none,x,0)/\st'=st/\2<=x/\x<=nrem/\∀i j,lo<=i->i < j->j < lo+x->G rk (arrOf st) j < G rk (arrOf st) i) (λx c st' uu yZ hI=>?_) (λc st' hI=>?_) ⟨rfl,rfl,λi j a1 a2 a3=>?_⟩) λc st' hI=>?_)
 ·obtain⟨rfl,rfl,hd⟩:=hI
  dsimp only
  refine v6 (vU R hS (by omega) (by omega) ?_)
  dsimp only
  by_cases c:G rk (arrOf st') (lo+x) < G rk (arrOf st') (lo+x - 1)
  ·rw[zAm c]
   simp only [zCt]
   rw[xL (by omega)]
   refine zAa ⟨rfl,rfl,λi j a1 a2 a3=>?_⟩
   by_cases ej:j=lo+x
   ·subst ej
    by_cases ei:i=lo+x - 1
    ·rw[ei]; exact c
    ·exact zD6 c (hd i (lo+x - 1) a1 (by omega) (by omega))
   ·exact hd i j a1 a2 (by omega)
  ·rw[zAv c]
   simp only [zAi,zBa]
   refine v6 (vU R hS (by omega) (by omega) ?_)
   have:G rk (arrOf st') (lo+x - 1) < G rk (arrOf st') (lo+x):=by
    rcases zCq (G rk (arrOf st') (lo+x - 1)) (G rk (arrOf st') (lo+x)) with z | z
    ·exact z
    ·have:=hS.ne R (i:=lo+x) (j:=lo+x - 1) (by omega) (by omega) (by omega)
     omega
   rw[zAm this]
   exact zAa ⟨x,rfl,rfl,uu,by omega,hd⟩
 ·obtain⟨rfl,rfl,hd⟩:=hI
  have e2:max (1+1) nrem=nrem:=by omega
  rw[e2] at hd ⊢
  exact⟨nrem,rfl,rfl,by omega,x3 _,hd⟩
 ·have ei:i=lo:=by omega
  have ej:j=lo+1:=by omega
  have:=d (by omega)
  rw[ei,ej]
  exact this
 ·obtain⟨x,rfl,rfl,x1,x2,hd⟩:=hI
  dsimp only
  rw[xL (by omega)]
  refine v6 (NR ?_)
  have pm:=mirror_perm (arrOf st') lo (lo+x) ((lo+x - lo) / 2)
  have ge:=getElem?_mirror_all (xs:=arrOf st') (i:=lo) (j:=lo+x) (by omega)
  generalize mirror (arrOf st') lo (lo+x) ((lo+x - lo) / 2)=ys at pm ge
  have fL:=hS.set pm
  have u2:Up rk ys lo (lo+x):=λi j a1 a2 a3=>by
   have e1:=ge i
   have e2:=ge j
   rw[x4 (by omega)] at e1 e2
   rw[eT e1,eT e2]
   exact hd _ _ (by omega) (by omega) (by omega)
  refine v6 (asc (setArr st' ys) x fL (by omega) x2 u2 λm m1 m2 u _=>?_)
  dsimp only
  refine zAa (h m ys pm (λk hk=>?_) (by omega) m2 u)
  rw[ge k,xL (by omega)]
theorem NT (R:Rk M A E s κ a0 rk)(hS:e_ κ a0 st){lo n ok:Nat}{Q:Bool->SortSt->Prop}(hn:lo+n<=a0.size)(h1:1<=ok)(hok:ok<=n)(u:Up rk (arrOf st) lo (lo+ok))
  (h:∀xs,xs.Perm (arrOf st)->(∀k:Nat,k < lo->xs[k]?=(arrOf st)[k]?)->Up rk xs lo (lo+n)->Q true (setArr st xs)):wpS M A E s (binarySort' lo n ok) Q st:=by
 have sz:=hS.size
 rw[binarySort'_eq,Nat.max_eq_left h1]
 refine v6 (zDl (zB0 (I:=λk c st'=>c=(none,())/\∃xs,st'=setArr st xs/\xs.Perm (arrOf st)/\(∀k:Nat,k < lo->xs[k]?=(arrOf st)[k]?)/\Up rk xs lo (lo+k)) (Q:=λc st'=>c=(none,())/\∃xs,st'=setArr st xs/\xs.Perm (arrOf st)/\(∀k:Nat,k < lo->xs[k]?=(arrOf st)[k]?)/\Up rk xs lo (lo+n)) (λk c st' hk1 hk2 hI=>?_) (λc st' hI=>?_) ⟨rfl,arrOf st,rfl,Array.Perm.refl _,λ_ _=>rfl,u⟩) λc st' hI=>?_)
 ·obtain⟨rfl,xs,rfl,pm,kp,hu⟩:=hI
  have NU:=hS.set pm
  have sx:xs.size=a0.size:=NU.size
  dsimp only
  refine v6 (zDl (zB0 (I:=λx c st'=>∃l r,c=(none,l,r)/\st'=setArr st xs/\l<=r/\r<=k/\r - l<=k - x/\(∀i,i < l->G rk xs (lo+i) < G rk xs (lo+k))/\∀i,r<=i->i < k->G rk xs (lo+k) < G rk xs (lo+i)) (Q:=λc st'=>∃l,c=(none,l,l)/\st'=setArr st xs/\l<=k/\(∀i,i < l->G rk xs (lo+i) < G rk xs (lo+k))/\∀i,l<=i->i < k->G rk xs (lo+k) < G rk xs (lo+i)) (λx c st' uu yZ hI=>?_) (λc st' hI=>?_) ⟨0,k,rfl,rfl,by omega,by omega,by omega,λi z=>by omega,λi _ z=>by omega⟩) λc st' hI=>?_)
  ·obtain⟨l,r,rfl,rfl,q1,q2,q3,q4,q5⟩:=hI
   dsimp only
   by_cases c:l >= r
   ·rw[x4 c]
    have:l=r:=by omega
    subst this
    exact zAa ⟨l,rfl,rfl,q2,q4,q5⟩
   ·rw[xL c]
    have b1:l<=(l+r) / 2:=by omega
    have b2:(l+r) / 2 < r:=by omega
    generalize (l+r) / 2=m at b1 b2 ⊢
    refine v6 (vU R NU (by omega) (by omega) ?_)
    have ea:arrOf (setArr st xs)=xs:=rfl
    rw[ea]
    by_cases c:G rk xs (lo+k) < G rk xs (lo+m)
    ·rw[zAm c]
     refine zAa ⟨l,m,rfl,rfl,b1,by omega,by omega,q4,λi a1 a2=>?_⟩
     by_cases e:i=m
     ·rw[e]; exact c
     ·exact zD6 c (hu (lo+m) (lo+i) (by omega) (by omega) (by omega))
    ·rw[zAv c]
     refine zAa ⟨m+1,r,rfl,rfl,by omega,q2,by omega,λi a1=>?_,q5⟩
     have z:G rk xs (lo+m) < G rk xs (lo+k):=by
      rcases zCq (G rk xs (lo+m)) (G rk xs (lo+k)) with z | z
      ·exact z
      ·have:=NU.ne R (i:=lo+m) (j:=lo+k) (by omega) (by omega) (by show G rk xs _=G rk xs _; omega)
       omega
     by_cases e:i=m
     ·rw[e]; exact z
     ·exact zD6 (hu (lo+i) (lo+m) (by omega) (by omega) (by omega)) z
  ·obtain⟨l,r,rfl,rfl,q1,q2,q3,q4,q5⟩:=hI
   rw[zB8 (by omega)] at q3
   have:l=r:=by omega
   subst this
   exact⟨l,rfl,rfl,q2,q4,q5⟩
  ·obtain⟨l,rfl,rfl,q2,q4,q5⟩:=hI
   dsimp only
   refine v6 (NS (zAa ⟨rfl,bubble xs (lo+k) (lo+k - (lo+l)),rfl,(bubble_perm _ _ _).trans pm,λj hj=>?_,λi j a1 a2 a3=>?_⟩))
   ·rw[getElem?_bubble (by omega) _ (by omega),xL (by omega),xL (by omega)]
    exact kp j hj
   ·have e1:=getElem?_bubble (xs:=xs) (src:=lo+k) (by omega) (lo+k - (lo+l)) (by omega) i
    have e2:=getElem?_bubble (xs:=xs) (src:=lo+k) (by omega) (lo+k - (lo+l)) (by omega) j
    rw[show lo+k - (lo+k - (lo+l))=lo+l by omega] at e1 e2
    have lw:∀i,lo<=i->i < lo+l->G rk xs i < G rk xs (lo+k):=λi a1 a2=>by
     have:=q4 (i - lo) (by omega)
     rwa [show lo+(i - lo)=i by omega] at this
    have hg:∀i,lo+l<=i->i < lo+k->G rk xs (lo+k) < G rk xs i:=λi a1 a2=>by
     have:=q5 (i - lo) (by omega) (by omega)
     rwa [show lo+(i - lo)=i by omega] at this
    by_cases i1:i=lo+l
    ·rw[x4 i1] at e1
     rw[xL (by omega),x4 (by omega)] at e2
     rw[eT e1,eT e2]
     exact hg _ (by omega) (by omega)
    ·rw[xL i1] at e1
     by_cases i2:lo+l < i
     ·rw[x4 (by omega)] at e1
      rw[xL (by omega),x4 (by omega)] at e2
      rw[eT e1,eT e2]
      exact hu _ _ (by omega) (by omega) (by omega)
     ·rw[xL (by omega)] at e1
      by_cases j1:j=lo+l
      ·rw[x4 j1] at e2
       rw[eT e1,eT e2]
       exact lw i a1 (by omega)
      ·rw[xL j1] at e2
       by_cases j2:lo+l < j
       ·rw[x4 (by omega)] at e2
        rw[eT e1,eT e2]
        exact hu _ _ (by omega) (by omega) (by omega)
       ·rw[xL (by omega)] at e2
        rw[eT e1,eT e2]
        exact hu _ _ (by omega) (by omega) (by omega)
 ·obtain⟨rfl,xs,rfl,pm,kp,hu⟩:=hI
  rw[zB8 hok] at hu
  exact⟨rfl,xs,rfl,pm,kp,hu⟩
 ·obtain⟨rfl,xs,rfl,pm,kp,hu⟩:=hI
  exact zAa (h xs pm kp hu)
end
noncomputable def LU:Bool->Keyed->Array Keyed->Nat->Nat->Nat->StateT SortSt Sem (Option Nat):=sortPriv% PySem.Builtin.gallop
noncomputable def Bd (rk:Keyed->Nat)(left:Bool)(key:Keyed)(arr:Array Keyed)(base i:Nat):Bool:=if left=true then decide (G rk arr (base+i) < rk key) else !decide (rk key < G rk arr (base+i))
section
variable {M:Model}{A:Around}{E:zzE}{s:Shared}{κ:SortKind}{a0:Array Keyed}{rk:Keyed->Nat}{st:SortSt}
theorem tE {left:Bool}{key:Keyed}{arr:Array Keyed}{base n i j:Nat}(u:Up rk arr base (base+n))(hij:i<=j)(hj:j < n)(b:Bd rk left key arr base j=true):Bd rk left key arr base i=true:=by
 by_cases e:i=j
 ·rw[e]; exact b
 have:=u (base+i) (base+j) (by omega) (by omega) (by omega)
 unfold Bd at b ⊢
 cases left
 ·simp only [zAi,zBa,Bool.not_eq_true',decide_eq_false_iff_not] at b ⊢
  omega
 ·simp only [zCt,zDg] at b ⊢
  omega
theorem jH (R:Rk M A E s κ a0 rk)(hk:kindOf st=κ){left:Bool}{key:Keyed}{arr:Array Keyed}{base n hint:Nat}{Q:Option Nat->SortSt->Prop}(hkey:key∈a0.toList)(harr:∀i,base<=i->i < base+n->∃x,arr[i]?=some x/\x∈a0.toList)(u:Up rk arr base (base+n))(hh:hint < n)
  (h:∀k,k<=n->(∀i,i < k->Bd rk left key arr base i=true)->(∀i,k<=i->i < n->Bd rk left key arr base i=false)->Q (some k) st):wpS M A E s (LU left key arr base n hint) Q st:=by
 have ask:∀(i:Nat) {Q':Option Bool->SortSt->Prop},i < n->Q' (some (Bd rk left key arr base i)) st->wpS M A E s (do
   let x ←elem' arr (base+i)
   if left=true then lt' x key else do
    let q ←lt' key x
    pure (q.map λz=>!z)) Q' st:=λi Q' hi hq=>by
  obtain⟨x,hx,mx⟩:=harr (base+i) (by omega) (by omega)
  rw[elem'_eq,hx]
  refine v6 (zAa ?_)
  unfold Bd at hq
  rw[fN hx] at hq
  cases left
  ·exact v6 (R.lt st key x _ hk hkey mx (zAa hq))
  ·exact R.lt st x key _ hk mx hkey hq
 have dn:∀{i j:Nat},i<=j->i < n->Bd rk left key arr base i=false->j < n->Bd rk left key arr base j=false:=λ{i j} hij hi b hj=>by
  cases e:Bd rk left key arr base j with
  | false=>rfl
  | true=>rw[tE u hij hj e] at b; cases b
 have fin:∀(lo hi:Nat) (body:Nat->Option (Option Nat) × Nat × Nat->StateT SortSt Sem (ForInStep (Option (Option Nat) × Nat × Nat))) (T:Option (Option Nat) × Nat × Nat->SortSt->Prop),lo<=hi->hi<=n->(∀i,i < lo->Bd rk left key arr base i=true)->(∀i,hi<=i->i < n->Bd rk left key arr base i=false)->
   (∀x l r Q',r<=l->Q' (.done (none,l,r)) st->wpS M A E s (body x (none,l,r)) Q' st)->(∀x l r Q',l < r->r<=n->(Bd rk left key arr base (l+(r - l) / 2)=true->Q' (.yield (none,l+(r - l) / 2+1,r)) st)->(Bd rk left key arr base (l+(r - l) / 2)=false->Q' (.yield (none,l,l+(r - l) / 2)) st)->wpS M A E s (body x (none,l,r)) Q' st)->
   (∀l,l<=n->(∀i,i < l->Bd rk left key arr base i=true)->(∀i,l<=i->i < n->Bd rk left key arr base i=false)->T (none,l,l) st)->wpS M A E s (forIn [:n] (none,lo,hi) body) T st:=λlo hi body T h1 h2 h3 h4 b1 b2 hT=>by
  refine zB0 (I:=λx c st'=>∃l r,c=(none,l,r)/\st'=st/\l<=r/\r<=n/\r - l<=n - x/\(∀i,i < l->Bd rk left key arr base i=true)/\∀i,r<=i->i < n->Bd rk left key arr base i=false) (λx c st' uu yZ hI=>?_) (λc st' hI=>?_) ⟨lo,hi,rfl,rfl,h1,h2,by omega,h3,h4⟩
  ·obtain⟨l,r,rfl,rfl,q1,q2,q3,q4,q5⟩:=hI
   by_cases c:l >= r
   ·refine b1 x l r _ c ?_
    have:l=r:=by omega
    subst this
    exact hT l q2 q4 q5
   ·refine b2 x l r _ (by omega) q2 (λe=>⟨_,r,rfl,rfl,by omega,q2,by omega,λi a1=>tE u (by omega) (by omega) e,q5⟩) λe=>⟨l,_,rfl,rfl,by omega,by omega,by omega,q4,λi a1 a2=>dn a1 (by omega) e a2⟩
  ·obtain⟨l,r,rfl,rfl,q1,q2,q3,q4,q5⟩:=hI
   rw[zB8 (by omega)] at q3
   have:l=r:=by omega
   subst this
   exact hT l q2 q4 q5
 refine v6 (ask hint hh ?_)
 dsimp only
 cases e:Bd rk left key arr base hint
 ·rw[xL (by decide)]
  refine v6 (zDl (zB0 (I:=λx c st'=>∃l o,c=(none,l,o)/\st'=st/\l < o/\l < hint+1/\x < o/\Bd rk left key arr base (hint - l)=false) (Q:=λc st'=>∃l o,c=(none,l,o)/\st'=st/\l < o/\l < hint+1/\Bd rk left key arr base (hint - l)=false/\(o >= hint+1\/Bd rk left key arr base (hint - o)=true)) (λx c st' uu yZ hI=>?_) (λc st' hI=>?_) ⟨0,1,rfl,rfl,by omega,by omega,by omega,e⟩) λc st' hI=>?_)
  ·obtain⟨l,o,rfl,rfl,q1,q2,q3,q4⟩:=hI
   dsimp only
   by_cases c:o >= hint+1
   ·rw[x4 c]
    exact zAa ⟨l,o,rfl,rfl,q1,q2,q4,.inl c⟩
   ·rw[xL c]
    refine v6 (ask (hint - o) (by omega) ?_)
    cases e2:Bd rk left key arr base (hint - o)
    ·exact zAa ⟨o,2 * o+1,rfl,rfl,by omega,by omega,by omega,e2⟩
    ·exact zAa ⟨l,o,rfl,rfl,q1,q2,q4,.inr e2⟩
  ·obtain⟨l,o,rfl,rfl,q1,q2,q3,q4⟩:=hI
   rw[zB8 (by omega)] at q3
   exact⟨l,o,rfl,rfl,q1,q2,q4,.inl (by omega)⟩
  ·obtain⟨l,o,rfl,rfl,q1,q2,q4,q5⟩:=hI
   dsimp only
   refine v6 (fin (hint+1 - min o (hint+1)) (hint - l) _ _ (by omega) (by omega) (λi hi=>?_) (λi a1 a2=>dn a1 (by omega) q4 a2) ?_ ?_ λl a1 a2 a3=>zAa (h l a1 a2 a3))
   ·rcases q5 with q5 | q5
    ·omega
    ·exact tE u (by omega) (by omega) q5
   ·intro x l r Q' hlr hq
    dsimp only
    rw[x4 hlr]
    exact zAa hq
   ·intro x l r Q' hlr hr y1 y2
    dsimp only
    rw[xL (by omega)]
    refine v6 (ask _ (by omega) ?_)
    cases e3:Bd rk left key arr base (l+(r - l) / 2)
    ·exact zAa (y2 e3)
    ·exact zAa (y1 e3)
 ·rw[x4 rfl]
  refine v6 (zDl (zB0 (I:=λx c st'=>∃l o,c=(none,l,o)/\st'=st/\l < o/\l < n - hint/\x < o/\Bd rk left key arr base (hint+l)=true) (Q:=λc st'=>∃l o,c=(none,l,o)/\st'=st/\l < o/\l < n - hint/\Bd rk left key arr base (hint+l)=true/\(o >= n - hint\/Bd rk left key arr base (hint+o)=false)) (λx c st' uu yZ hI=>?_) (λc st' hI=>?_) ⟨0,1,rfl,rfl,by omega,by omega,by omega,e⟩) λc st' hI=>?_)
  ·obtain⟨l,o,rfl,rfl,q1,q2,q3,q4⟩:=hI
   dsimp only
   by_cases c:o >= n - hint
   ·rw[x4 c]
    exact zAa ⟨l,o,rfl,rfl,q1,q2,q4,.inl c⟩
   ·rw[xL c]
    refine v6 (ask (hint+o) (by omega) ?_)
    cases e2:Bd rk left key arr base (hint+o)
    ·exact zAa ⟨l,o,rfl,rfl,q1,q2,q4,.inr e2⟩
    ·exact zAa ⟨o,2 * o+1,rfl,rfl,by omega,by omega,by omega,e2⟩
  ·obtain⟨l,o,rfl,rfl,q1,q2,q3,q4⟩:=hI
   rw[zB8 (by omega)] at q3
   exact⟨l,o,rfl,rfl,q1,q2,q4,.inl (by omega)⟩
  ·obtain⟨l,o,rfl,rfl,q1,q2,q4,q5⟩:=hI
   dsimp only
   refine v6 (fin (hint+l+1) (hint+min o (n - hint)) _ _ (by omega) (by omega) (λi hi=>tE u (by omega) (by omega) q4) (λi a1 a2=>?_) ?_ ?_ λl a1 a2 a3=>zAa (h l a1 a2 a3))
   ·rcases q5 with q5 | q5
    ·omega
    ·exact dn (by omega) (by omega) q5 a2
   ·intro x l r Q' hlr hq
    dsimp only
    rw[x4 hlr]
    exact zAa hq
   ·intro x l r Q' hlr hr y1 y2
    dsimp only
    rw[xL (by omega)]
    refine v6 (ask _ (by omega) ?_)
    cases e3:Bd rk left key arr base (l+(r - l) / 2)
    ·exact zAa (y2 e3)
    ·exact zAa (y1 e3)
end
structure J {α:Type}(r:α->α->Prop)(all o x y:List α):Prop where
 perm:(o++(x++y)).Perm all
 so:o.Pairwise r
 sx:x.Pairwise r
 sy:y.Pairwise r
 lt:∀p∈o,∀q∈x++y,r p q
section
variable {α:Type}{r:α->α->Prop}{all o x y c:List α}
theorem J.swap (h:J r all o x y):J r all o y x:=⟨(List.Perm.append_left o List.perm_append_comm).trans h.perm,h.so,h.sy,h.sx,λp hp q hq=>h.lt p hp q (by
 rcases wT.mp hq with z | z
 ·exact wT.mpr (.inr z)
 ·exact wT.mpr (.inl z))⟩
theorem J.take (h:J r all o (c++x) y)(hc:∀p∈c,∀q∈y,r p q):J r all (o++c) x y:=by
 obtain⟨h1,h2,h3⟩:=zBu.mp h.sx
 refine⟨by simpa using h.perm,zBu.mpr ⟨h.so,h1,λp hp q hq=>h.lt p hp q (by simp [hq])⟩,h2,h.sy,λp hp q hq=>?_⟩
 rcases wT.mp hp with z | z
 ·exact h.lt p z q (by
   rcases wT.mp hq with e | e
   ·simp [e]
   ·simp [e])
 ·rcases wT.mp hq with e | e
  ·exact h3 p z q e
  ·exact hc p z q e
theorem J.take' (h:J r all o x (c++y))(hc:∀p∈c,∀q∈x,r p q):J r all (o++c) x y:=(h.swap.take hc).swap
theorem J.fin (h:J r all o x []):(o++x).Perm all/\(o++x).Pairwise r:=by
 obtain⟨h1,h2,h3,_,h5⟩:=h
 rw[zBc] at h1
 exact⟨h1,zBu.mpr ⟨h2,h3,λp hp q hq=>h5 p hp q (by simp [hq])⟩⟩
theorem J.last {z:α}(h:J r all o [z] y)(hz:∀q∈y,r q z):(o++y++[z]).Perm all/\(o++y++[z]).Pairwise r:=by
 have h2:=(J.take' (c:=y) (y:=[]) (by rw[zBc]; exact h) λp hp q hq=>by rw[w8.mp hq]; exact hz p hp).fin
 exact h2
end
theorem tF {α:Type}(a:Array α){i k:Nat}:a.toList.drop i=(a.extract i (i+k)).toList++a.toList.drop (i+k):=by
 rw[zDe,zCp,zCh]
 conv=>lhs; rw[←zB3 k (a.toList.drop i)]
 rw[List.drop_drop]
theorem dX {α:Type}{a:Array α}{i:Nat}{p:α}(h:a[i]?=some p):a.toList.drop i=[p]++a.toList.drop (i+1):=by
 rw[←zAc] at h
 obtain⟨hi,e⟩:=zAp.mp h
 rw[zCb hi,e]
 rfl
theorem kj {α:Type}(a:Array α){i:Nat}:(a.extract i a.size).toList=a.toList.drop i:=by
 rw[zDe,zCp]
 exact zC0 (by simp)
noncomputable def IY:Array Keyed->Array Keyed->StateT SortSt Sem (Array Keyed):=sortPriv% PySem.Builtin.mergeLo
noncomputable def bS (st:SortSt)(g:Nat):SortSt:=SortSt.mk' (kindOf st) (arrOf st) (pendingOf st) g (failedOf st)
section
variable {M:Model}{A:Around}{E:zzE}{s:Shared}{κ:SortKind}{a0:Array Keyed}{rk:Keyed->Nat}{st:SortSt}
theorem bY {arr:Array Keyed}{i:Nat}{p:Keyed}{Q:Keyed->SortSt->Prop}(h:arr[i]?=some p)(k:Q p st):wpS M A E s (elem' arr i) Q st:=by
 rw[elem'_eq,h]; exact zAa k
theorem bD {α:Type}{c:Prop}[Decidable c]{m n:StateT SortSt Sem α}{Q:α->SortSt->Prop}(ht:c->wpS M A E s m Q st)(he:¬ c->wpS M A E s n Q st):wpS M A E s (if c then m else n) Q st:=by
 by_cases h:c
 ·rw[x4 h]; exact ht h
 ·rw[xL h]; exact he h
theorem A1 {a:Array Keyed}{i k:Nat}{p:Keyed}(h:p∈(a.extract i (i+k)).toList):∃j,j < k/\a[i+j]?=some p:=by
 rw[zDe,zCp,zCh] at h
 obtain⟨j,hj⟩:=zB2.mp h
 rw[List.getElem?_take] at hj
 split at hj
 ·rename_i c
  rw[zDr,zAc] at hj
  exact⟨j,c,hj⟩
 ·cases hj
theorem Gh {a:Array Keyed}{i:Nat}{p:Keyed}(h:p∈a.toList.drop i):∃j,i+j < a.size/\a[i+j]?=some p:=by
 obtain⟨j,hj⟩:=zB2.mp h
 rw[zDr,zAc] at hj
 exact⟨j,(Array.getElem?_eq_some_iff.mp hj).1,hj⟩
theorem vV {a:Array Keyed}(h:a.toList.Pairwise λp q=>rk p < rk q){i j:Nat}(hj:j<=a.size):Up rk a i j:=λx y _ h1 h2=>by
 have hy:y < a.size:=by omega
 have hx:x < a.size:=by omega
 rw[fN (zCs a x hx),fN (zCs a y hy)]
 exact zCn.mp h x y (by simpa using hx) (by simpa using hy) h1
theorem J.ne {all o x y:List Keyed}(h:J (λp q=>rk p < rk q) all o x y)(nd:(all.map rk).Nodup){p q:Keyed}(hp:p∈x)(hq:q∈y):rk p≠rk q:=by
 have:=(h.perm.map rk).nodup_iff.mpr nd
 rw[v4,v4] at this
 have h2:=(zB5.mp (zB5.mp this).2.1).2.2
 exact h2 _ (zA5 hp) _ (zA5 hq)
theorem tG {x:List Keyed}{p q:Keyed}(h:([p]++x).Pairwise λp q=>rk p < rk q)(hq:rk q < rk p):∀z∈[p]++x,rk q < rk z:=λz hz=>by
 rcases wS.mp hz with rfl | e
 ·exact hq
 ·exact zD6 hq ((List.pairwise_cons.mp h).1 z e)
abbrev JJ (rk:Keyed->Nat) (a b o:Array Keyed) (i j:Nat):Prop:=J (λp q=>rk p < rk q) (a.toList++b.toList) o.toList (a.toList.drop i) (b.toList.drop j)
abbrev Fn (rk:Keyed->Nat) (a b r:Array Keyed):Prop:=r.toList.Perm (a.toList++b.toList)/\r.toList.Pairwise λp q=>rk p < rk q
theorem EJ (R:Rk M A E s κ a0 rk)(hk:kindOf st=κ){a b:Array Keyed}{Q:Array Keyed->SortSt->Prop}(ha:∀p∈a.toList++b.toList,p∈a0.toList)(nd:((a.toList++b.toList).map rk).Nodup)(sa:a.toList.Pairwise λp q=>rk p < rk q)(sb:b.toList.Pairwise λp q=>rk p < rk q)
  (ha1:1<=a.size) (hb1:1<=b.size) (hf:∀p q,b[0]?=some p->q∈a.toList->rk p < rk q) (hl:∀p q,a[a.size - 1]?=some p->q∈b.toList->rk q < rk p)
  (h:∀(res:Array Keyed) g,Fn rk a b res->Q res (bS st g)):wpS M A E s (IY a b) Q st:=by
 have vW:∀i,i < a.size->∃p,a[i]?=some p/\p∈a0.toList/\p∈a.toList.drop i:=λi hi=>⟨a[i],zCs a i hi,ha _ (by simp),by rw[dX (zCs a i hi)]; simp⟩
 have vX:∀i,i < b.size->∃p,b[i]?=some p/\p∈a0.toList/\p∈b.toList.drop i:=λi hi=>⟨b[i],zCs b i hi,ha _ (by simp),by rw[dX (zCs b i hi)]; simp⟩
 have tell1:∀(out:Array Keyed) ia ib,JJ rk a b out ia ib->ib=b.size->Fn rk a b (out++a.extract ia a.size++b.extract ib b.size):=λout ia ib j e=>by
  have e1:b.toList.drop ib=[]:=by rw[e]; simp
  unfold JJ at j
  rw[e1] at j
  unfold Fn
  rw[zA7,zA7,kj,kj,e1,zBc]
  exact j.fin
 have tell2:∀(out:Array Keyed) ia ib,JJ rk a b out ia ib->ia=a.size->Fn rk a b (out++a.extract ia a.size++b.extract ib b.size):=λout ia ib j e=>by
  have e1:a.toList.drop ia=[]:=by rw[e]; simp
  unfold JJ at j
  rw[e1] at j
  unfold Fn
  rw[zA7,zA7,kj,kj,e1,zBc]
  exact j.swap.fin
 have tell3:∀(out:Array Keyed) ia ib,JJ rk a b out ia ib->ia+1=a.size->Fn rk a b (out++b.extract ib b.size++a.extract ia a.size):=λout ia ib j e=>by
  obtain⟨z,hz,_⟩:=vW ia (by omega)
  have e1:a.toList.drop ia=[z]:=by
   rw[dX hz,e]; simp
  unfold JJ at j
  rw[e1] at j
  unfold Fn
  rw[zA7,zA7,kj,kj,e1]
  exact j.last λq hq=>hl z q (by rw[show a.size - 1=ia by omega]; exact hz) (zCi hq)
 have tH:∀{out:Array Keyed} {ia ib:Nat} {p:Keyed},JJ rk a b out ia ib->a[ia]?=some p->(∀q∈b.toList.drop ib,rk p < rk q)->JJ rk a b (out.push p) (ia+1) ib:=λ{out ia ib p} j hp hq=>by
  unfold JJ at j
  rw[dX hp] at j
  unfold JJ
  rw[zDi]
  exact j.take λx hx q hq'=>by rw[w8.mp hx]; exact hq q hq'
 have tK:∀{out:Array Keyed} {ia ib:Nat} {p:Keyed},JJ rk a b out ia ib->b[ib]?=some p->(∀q∈a.toList.drop ia,rk p < rk q)->JJ rk a b (out.push p) ia (ib+1):=λ{out ia ib p} j hp hq=>by
  unfold JJ at j
  rw[dX hp] at j
  unfold JJ
  rw[zDi]
  exact j.take' λx hx q hq'=>by rw[w8.mp hx]; exact hq q hq'
 obtain⟨b0,NV,XA,_⟩:=vX 0 hb1
 have j0:JJ rk a b (#[b0]) 0 1:=tK (out:=#[]) (ia:=0) (ib:=0) ⟨by simp,List.Pairwise.nil,by simpa using sa,by simpa using sb,by simp⟩ NV λq hq=>hf b0 q NV (zCi hq)
 refine v6 (wpS_lift (zCo ⟨rfl,?_⟩))
 refine v6 (bY NV ?_)
 refine bD (λc=>zAa (h _ (gallopOf st) (tell1 _ 0 1 j0 (by simpa using c)))) λc1=>?_
 refine bD (λc=>zAa (h _ (gallopOf st) (tell3 _ 0 1 j0 (by simpa using c)))) λc2=>?_
 have hb2:1 < b.size:=by
  have:¬ 1=b.size:=by simpa using c1
  omega
 have ha2:1 < a.size:=by
  have:¬ 1=a.size:=by simpa using c2
  omega
 refine v6 (wpS_get ?_)
 refine v6 (zDl (zB0
  (I:=λx c st'=>∃out ia ib mg g,c=(none,out,ia,ib,mg)/\st'=bS st g/\JJ rk a b out ia ib/\ia+1 < a.size/\ib < b.size/\x+1<=ia+ib)
  (Q:=λc st'=>∃res g,c.1=some res/\st'=bS st g/\Fn rk a b res) (λx c st' uu yZ hI=>?_) (λc st' hI=>?_) ⟨#[b0],0,1,gallopOf st,gallopOf st,rfl,rfl,j0,ha2,hb2,x3 _⟩) λc st' hI=>?_)
 rotate_left
 ·obtain⟨out,ia,ib,mg,g,rfl,rfl,j,l1,l2,l3⟩:=hI
  rw[zB8 (zAw _)] at l3
  omega
 ·obtain⟨res,g,e,rfl,hres⟩:=hI
  obtain⟨c1,c2⟩:=c
  cases e
  exact zAa (h res g hres)
 obtain⟨out,ia,ib,mg,g,rfl,rfl,j,l1,l2,l3⟩:=hI
 refine v6 (zDl (zB0
  (I:=λy c st'=>∃out iS iT ac bc,c=(none,out,iS,iT,ac,bc)/\st'=bS st g/\JJ rk a b out iS iT/\iS+1 < a.size/\iT < b.size/\ia+ib+min y 1<=iS+iT)
  (Q:=λc st'=>st'=bS st g/\((∃out iS iT ac bc,c=(none,out,iS,iT,ac,bc)/\JJ rk a b out iS iT/\iS+1 < a.size/\iT < b.size/\ia+ib+1<=iS+iT)\/∃res,c.1=some res/\Fn rk a b res)) (λy c st' hy1 Av hI=>?_) (λc st' hI=>?_) ⟨out,ia,ib,0,0,rfl,rfl,j,l1,l2,by omega⟩) λc st' hI=>?_)
 ·obtain⟨out,iS,iT,ac,bc,rfl,rfl,j,l1,l2,l4⟩:=hI
  obtain⟨p,hp,mp,dp⟩:=vW iS (by omega)
  obtain⟨q,hq,mq,dq⟩:=vX iT l2
  refine v6 (bY hq (v6 (bY hp (v6 (R.lt _ q p _ hk mq mp ?_)))))
  by_cases c:rk q < rk p
  ·rw[zAm c]
   have j2:=tK j hq (by rw[dX hp]; exact tG (by rw[←dX hp]; exact j.sx) c)
   refine v6 (bY hq (bD (λe=>zAa ⟨rfl,.inr ⟨_,rfl,tell1 _ _ _ j2 (by simpa using e)⟩⟩) λe=>?_))
   have e':¬ iT+1=b.size:=by simpa using e
   exact bD (λ_=>zAa ⟨rfl,.inl ⟨out.push q,iS,iT+1,_,_,rfl,j2,l1,by omega,by omega⟩⟩) λ_=>zAa ⟨out.push q,iS,iT+1,_,_,rfl,rfl,j2,l1,by omega,by omega⟩
  ·rw[zAv c]
   have c':rk p < rk q:=by have:=j.ne nd dp dq; omega
   have j2:=tH j hp (by rw[dX hq]; exact tG (by rw[←dX hq]; exact j.sy) c')
   refine v6 (bY hp (bD (λe=>zAa ⟨rfl,.inr ⟨_,rfl,tell3 _ _ _ j2 (by simpa using e)⟩⟩) λe=>?_))
   have e':¬ iS+1+1=a.size:=by simpa using e
   exact bD (λ_=>zAa ⟨rfl,.inl ⟨out.push p,iS+1,iT,_,_,rfl,j2,by omega,by omega,by omega⟩⟩) λ_=>zAa ⟨out.push p,iS+1,iT,_,_,rfl,rfl,j2,by omega,by omega,by omega⟩
 ·obtain⟨out,iS,iT,ac,bc,rfl,rfl,j,l1,l2,l4⟩:=hI
  exact⟨rfl,.inl ⟨_,_,_,_,_,rfl,j,l1,l2,by rw[zB8 (zAw _)] at l4; omega⟩⟩
 obtain⟨rfl,⟨out,iS,iT,ac,bc,rfl,j,l1,l2,l4⟩ | ⟨res,e,hres⟩⟩:=hI
 rotate_left
 ·obtain⟨c1,c2⟩:=c
  cases e
  exact zAa ⟨res,g,rfl,rfl,hres⟩
 dsimp -zeta only
 refine v6 (wpS_lift (zCo ⟨rfl,?_⟩))
 refine v6 (zDl (zB0
  (I:=λy c st'=>∃out ia ib mg ac bc g,c=(none,out,ia,ib,mg,ac,bc)/\st'=bS st g/\JJ rk a b out ia ib/\ia+1 < a.size/\ib < b.size/\iS+iT<=ia+ib)
  (Q:=λc st'=>∃g,st'=bS st g/\((∃out ia ib mg ac bc,c=(none,out,ia,ib,mg,ac,bc)/\JJ rk a b out ia ib/\ia+1 < a.size/\ib < b.size/\iS+iT<=ia+ib)\/∃res,c.1=some res/\Fn rk a b res)) (λy c st' hy1 Av hI=>?_) (λc st' hI=>?_) ⟨out,iS,iT,_,_,_,g,rfl,rfl,j,l1,l2,x3 _⟩) λc st' hI=>?_)
 rotate_left
 ·obtain⟨out,ia,ib,mg,ac,bc,g,rfl,rfl,j,l1,l2,l5⟩:=hI
  exact⟨g,rfl,.inl ⟨out,ia,ib,mg,ac,bc,rfl,j,l1,l2,l5⟩⟩
 ·obtain⟨g,rfl,⟨out,ia2,RA,Gi,ac,bc,rfl,j,l1,l2,l5⟩ | ⟨res,e,hres⟩⟩:=hI
  ·refine v6 (zEe (zAa ⟨out,ia2,RA,_,Gi+1,rfl,rfl,j,l1,l2,by omega⟩))
  ·obtain⟨c1,c2⟩:=c
   cases e
   exact zAa ⟨res,g,rfl,rfl,hres⟩
 obtain⟨out,ia,ib,Gi,ac,bc,g,rfl,rfl,j,l1,l2,l5⟩:=hI
 obtain⟨q,hq,mq,dq⟩:=vX ib l2
 dsimp -zeta only
 extract_lets s1 Te s2 XC s3 XD s4 Us s5 Ut Uu RA jp
 have rJ:∀T:ForInStep (Option (Array Keyed) × Array Keyed × Nat × Nat × Nat × Nat × Nat)->SortSt->Prop,(∀(res:Array Keyed) c g,Fn rk a b res->T (.done (some res,c)) (bS st g))->
   (∀(out:Array Keyed) ia ib mg ac bc g,JJ rk a b out ia ib->ia+1 < a.size->ib < b.size->iS+iT<=ia+ib->T (.done (none,out,ia,ib,mg,ac,bc)) (bS st g)/\T (.yield (none,out,ia,ib,mg,ac,bc)) (bS st g))->∀u m g,wpS M A E s (jp u m) T (bS st g):=by
  intro T tS tN u m g
  refine v6 (zEe (v6 (bY hq (v6 (jH (base:=ia) (n:=a.size - ia) (st:=bS st m) R hk mq (λi h1 h2=>?_) (vV sa (by omega)) (by omega) λk k1 k2 k3=>?_)))))
  ·obtain⟨p,h1,h2,_⟩:=vW i (by omega)
   exact⟨p,h1,h2⟩
  have lo:∀p∈(a.extract ia (ia+k)).toList,rk p < rk q:=λp hp=>by
   obtain⟨i,hi,e⟩:=A1 hp
   have:=k2 i hi
   unfold Bd at this
   rw[xL (by decide),fN e] at this
   have h2:¬ rk q < rk p:=by simpa using this
   have h3:=j.ne nd (p:=p) (q:=q) (by rw[tF a (k:=k)]; exact zCv _ hp) dq
   omega
  have up:∀p∈a.toList.drop (ia+k),rk q < rk p:=λp hp=>by
   obtain⟨i,hi,e⟩:=Gh hp
   have:=k3 (k+i) (by omega) (by omega)
   unfold Bd at this
   rw[xL (by decide),←Nat.add_assoc,fN e] at this
   simpa using this
  dsimp -zeta only
  extract_lets Uv jp2
  have hjp2:∀(u:Unit) (out:Array Keyed) (ia2:Nat),JJ rk a b out ia2 ib->ia<=ia2->ia2+1 < a.size->(∀p∈a.toList.drop ia2,rk q < rk p)->wpS M A E s (jp2 u out ia2) T (bS st m):=by
   intro u out ia2 j h1 h2 h3
   have j2:=tK j hq h3
   obtain⟨p,hp,mp,dp⟩:=vW ia2 (by omega)
   refine v6 (bY hq (bD (λe=>zAa (tS _ _ _ (tell1 _ _ _ j2 (by simpa using e)))) λe=>?_))
   have e':¬ ib+1=b.size:=by simpa using e
   refine v6 (bY hp (v6 (jH (base:=ib+1) (n:=b.size - (ib+1)) (st:=bS st m) R hk mp (λi h1 h2=>?_) (vV sb (by omega)) (by omega) λk k1 k2 k3=>?_)))
   ·obtain⟨p,h1,h2,_⟩:=vX i (by omega)
    exact⟨p,h1,h2⟩
   have lo:∀z∈(b.extract (ib+1) (ib+1+k)).toList,rk z < rk p:=λz hz=>by
    obtain⟨i,hi,e⟩:=A1 hz
    have:=k2 i hi
    unfold Bd at this
    rw[x4 rfl,fN e] at this
    simpa using this
   have up:∀z∈b.toList.drop (ib+1+k),rk p < rk z:=λz hz=>by
    obtain⟨i,hi,e⟩:=Gh hz
    have:=k3 (k+i) (by omega) (by omega)
    unfold Bd at this
    rw[x4 rfl,←Nat.add_assoc,fN e] at this
    have h2:¬ rk z < rk p:=by simpa using this
    have h3:=j2.ne nd (p:=p) (q:=z) dp (by rw[tF b (k:=k)]; exact zBm _ hz)
    omega
   dsimp -zeta only
   extract_lets Uw XE jp3
   have A2:∀(u:Unit) (out:Array Keyed) (ib3:Nat),JJ rk a b out ia2 ib3->ib+1<=ib3->ib3 < b.size->(∀z∈b.toList.drop ib3,rk p < rk z)->wpS M A E s (jp3 u out ib3) T (bS st m):=by
    intro u out ib3 j h4 h5 h6
    have j3:=tH j hp h6
    refine v6 (bY hp (bD (λe=>zAa (tS _ _ _ (tell3 _ _ _ j3 (by simpa using e)))) λe=>?_))
    have e':¬ ia2+1+1=a.size:=by simpa using e
    have tt:=λac bc=>tN _ (ia2+1) ib3 m ac bc m j3 (by omega) h5 (by omega)
    exact bD (λ_=>zAa (tt _ _).1) λ_=>zAa (tt _ _).2
   clear_value jp3
   refine bD (λkp=>?_) λkp=>?_
   ·have j3:JJ rk a b (out.push q++b.extract (ib+1) (ib+1+k)) ia2 (ib+1+k):=by
     unfold JJ at j2
     rw[tF b (i:=ib+1) (k:=k)] at j2
     unfold JJ
     rw[zA7]
     refine j2.take' λz hz x hx=>?_
     rw[dX hp] at hx
     exact tG (by rw[←dX hp]; exact j2.sx) (lo z hz) x hx
    refine bD (λe=>zAa (tS _ _ _ (tell1 _ _ _ j3 (by simpa using e)))) λe=>?_
    have e':¬ ib+1+k=b.size:=by simpa using e
    exact A2 _ _ (ib+1+k) j3 (by omega) (by omega) up
   ·have k0:k=0:=by omega
    subst k0
    exact A2 _ _ (ib+1) j2 (x3 _) (by omega) up
  clear_value jp2
  refine bD (λkp=>?_) λkp=>?_
  ·have j2:JJ rk a b (out++a.extract ia (ia+k)) (ia+k) ib:=by
    unfold JJ at j
    rw[tF a (i:=ia) (k:=k)] at j
    unfold JJ
    rw[zA7]
    refine j.take λz hz x hx=>?_
    rw[dX hq] at hx
    exact tG (by rw[←dX hq]; exact j.sy) (lo z hz) x hx
   refine bD (λe=>zAa (tS _ _ _ (tell3 _ _ _ j2 (by simpa using e)))) λe=>?_
   refine bD (λe=>zAa (tS _ _ _ (tell2 _ _ _ j2 (by simpa using e)))) λe2=>?_
   have e':¬ ia+k+1=a.size:=by simpa using e
   have Ux:¬ ia+k=a.size:=by simpa using e2
   exact hjp2 _ _ (ia+k) j2 (by omega) (by omega) up
  ·have k0:k=0:=by omega
   subst k0
   exact hjp2 _ _ ia j (x3 _) l1 up
 clear_value jp
 refine bD (λ_=>rJ _ ?_ ?_ _ _ _) λ_=>rJ _ ?_ ?_ _ _ _
 all_goals first | exact λres c g hr=>⟨g,rfl,.inr ⟨res,rfl,hr⟩⟩ | exact λout ia ib mg ac bc g j l1 l2 l5=>⟨⟨g,rfl,.inl ⟨out,ia,ib,mg,ac,bc,rfl,j,l1,l2,l5⟩⟩,⟨out,ia,ib,mg,ac,bc,g,rfl,rfl,j,l1,l2,l5⟩⟩
end
theorem tL {α:Type}(a:Array α){i n:Nat}(h:i<=n):(a.toList.take n).reverse=(a.extract i n).reverse.toList++(a.toList.take i).reverse:=by
 rw[zD0,zDe,zCp,←zDk]
 congr 1
 have:n=i+(n - i):=by omega
 conv=>lhs; rw[this,List.take_add]
theorem dY {α:Type}{a:Array α}{n:Nat}{p:α}(h:a[n]?=some p):(a.toList.take (n+1)).reverse=[p]++(a.toList.take n).reverse:=by
 rw[←zAc] at h
 rw[zBv,h,zDk]
 rfl
theorem take_all {α:Type}(a:Array α){n:Nat}:(a.extract 0 n).toList=a.toList.take n:=by
 rw[zDe,zCp]
 rfl
noncomputable def IZ:Array Keyed->Array Keyed->StateT SortSt Sem (Array Keyed):=sortPriv% PySem.Builtin.mergeHi
section
variable {M:Model}{A:Around}{E:zzE}{s:Shared}{κ:SortKind}{a0:Array Keyed}{rk:Keyed->Nat}{st:SortSt}
theorem Dm {a:Array Keyed}{i n:Nat}{p:Keyed}(hn:i<=n)(h:p∈(a.extract i n).reverse.toList):∃j,i<=j/\j < n/\a[j]?=some p:=by
 rw[zD0,List.mem_reverse] at h
 have h:p∈(a.extract i (i+(n - i))).toList:=by rw[show i+(n - i)=n by omega]; exact h
 obtain⟨j,hj,e⟩:=A1 h
 exact⟨i+j,by omega,by omega,e⟩
theorem Gj {a:Array Keyed}{n:Nat}{p:Keyed}(h:p∈(a.toList.take n).reverse):∃j,j < n/\a[j]?=some p:=by
 obtain⟨j,hj⟩:=zB2.mp (List.mem_reverse.mp h)
 rw[List.getElem?_take] at hj
 split at hj
 ·rename_i c
  exact⟨j,c,by rw[←zAc]; exact hj⟩
 ·cases hj
theorem J.ne' {all o x y:List Keyed}(h:J (λp q=>rk q < rk p) all o x y)(nd:(all.map rk).Nodup){p q:Keyed}(hp:p∈x)(hq:q∈y):rk p≠rk q:=by
 have:=(h.perm.map rk).nodup_iff.mpr nd
 rw[v4,v4] at this
 have h2:=(zB5.mp (zB5.mp this).2.1).2.2
 exact h2 _ (zA5 hp) _ (zA5 hq)
theorem tM {x:List Keyed}{p q:Keyed}(h:([p]++x).Pairwise λp q=>rk q < rk p)(hq:rk p < rk q):∀z∈[p]++x,rk z < rk q:=λz hz=>by
 rcases wS.mp hz with rfl | e
 ·exact hq
 ·exact zD6 ((List.pairwise_cons.mp h).1 z e) hq
abbrev JH (rk:Keyed->Nat) (a b o:Array Keyed) (i j:Nat):Prop:=J (λp q=>rk q < rk p) (a.toList++b.toList) o.toList (a.toList.take i).reverse (b.toList.take j).reverse
theorem EK (R:Rk M A E s κ a0 rk)(hk:kindOf st=κ){a b:Array Keyed}{Q:Array Keyed->SortSt->Prop}(ha:∀p∈a.toList++b.toList,p∈a0.toList)(nd:((a.toList++b.toList).map rk).Nodup)(sa:a.toList.Pairwise λp q=>rk p < rk q)(sb:b.toList.Pairwise λp q=>rk p < rk q)
  (ha1:1<=a.size) (hb1:1<=b.size) (hf:∀p q,b[0]?=some p->q∈a.toList->rk p < rk q) (hl:∀p q,a[a.size - 1]?=some p->q∈b.toList->rk q < rk p)
  (h:∀(res:Array Keyed) g,Fn rk a b res->Q res (bS st g)):wpS M A E s (IZ a b) Q st:=by
 have vW:∀i,i < a.size->∃p,a[i]?=some p/\p∈a0.toList/\p∈(a.toList.take (i+1)).reverse:=λi hi=>⟨a[i],zCs a i hi,ha _ (by simp),by rw[dY (zCs a i hi)]; simp⟩
 have vX:∀i,i < b.size->∃p,b[i]?=some p/\p∈a0.toList/\p∈(b.toList.take (i+1)).reverse:=λi hi=>⟨b[i],zCs b i hi,ha _ (by simp),by rw[dY (zCs b i hi)]; simp⟩
 have flip:∀{l:List Keyed},l.Perm (a.toList++b.toList)/\(l.Pairwise λp q=>rk q < rk p)->l.reverse.Perm (a.toList++b.toList)/\l.reverse.Pairwise λp q=>rk p < rk q:=λ{l} hl=>⟨(List.reverse_perm l).trans hl.1,List.pairwise_reverse.mpr hl.2⟩
 have tell1:∀(out:Array Keyed) na nb,JH rk a b out na nb->na=0->Fn rk a b (a.extract 0 na++b.extract 0 nb++out.reverse):=λout na nb j e=>by
  subst e
  have:=flip j.swap.fin
  rw[zDk,List.reverse_reverse] at this
  unfold Fn
  rw[zA7,zA7,take_all,take_all,zD0]
  exact this
 have tell2:∀(out:Array Keyed) na nb,JH rk a b out na nb->nb=0->Fn rk a b (a.extract 0 na++b.extract 0 nb++out.reverse):=λout na nb j e=>by
  subst e
  have:=flip j.fin
  rw[zDk,List.reverse_reverse] at this
  unfold Fn
  rw[zA7,zA7,take_all,take_all,zD0,List.take_zero,zBc]
  exact this
 have tell3:∀(out:Array Keyed) na nb,JH rk a b out na nb->nb=1->Fn rk a b (b.extract 0 nb++a.extract 0 na++out.reverse):=λout na nb j e=>by
  subst e
  obtain⟨z,hz,_⟩:=vX 0 hb1
  have e1:(b.toList.take 1).reverse=[z]:=by rw[dY (n:=0) hz]; rfl
  have e2:b.toList.take 1=[z]:=by rw[←List.reverse_reverse (b.toList.take 1),e1]; rfl
  unfold JH at j
  rw[e1] at j
  have:=flip (j.swap.last λq hq=>hf z q hz (zDb (List.mem_reverse.mp hq)))
  rw[zDk,zDk,List.reverse_reverse] at this
  unfold Fn
  rw[zA7,zA7,take_all,take_all,zD0,e2,zA4]
  exact this
 have tH:∀{out:Array Keyed} {na nb:Nat} {p:Keyed},JH rk a b out (na+1) nb->a[na]?=some p->(∀q∈(b.toList.take nb).reverse,rk q < rk p)->JH rk a b (out.push p) na nb:=λ{out na nb p} j hp hq=>by
  unfold JH at j
  rw[dY hp] at j
  unfold JH
  rw[zDi]
  exact j.take λx hx q hq'=>by rw[w8.mp hx]; exact hq q hq'
 have tK:∀{out:Array Keyed} {na nb:Nat} {p:Keyed},JH rk a b out na (nb+1)->b[nb]?=some p->(∀q∈(a.toList.take na).reverse,rk q < rk p)->JH rk a b (out.push p) na nb:=λ{out na nb p} j hp hq=>by
  unfold JH at j
  rw[dY hp] at j
  unfold JH
  rw[zDi]
  exact j.take' λx hx q hq'=>by rw[w8.mp hx]; exact hq q hq'
 obtain⟨n,hn⟩:∃n,a.size=n+1:=⟨a.size - 1,by omega⟩
 have hn':a.size - 1=n:=by omega
 obtain⟨z0,NW,XF,_⟩:=vW n (by omega)
 have j0:J (λp q=>rk q < rk p) (a.toList++b.toList) (#[z0]).toList (a.toList.take n).reverse (b.toList.take b.size).reverse:=tH (out:=#[]) (na:=n) (nb:=b.size) ⟨by
   rw[show n+1=a.toList.length by simp [hn],zBb,show b.size=b.toList.length by simp,zBb]
   exact ((List.reverse_perm _).append (List.reverse_perm _)),List.Pairwise.nil,List.pairwise_reverse.mpr (sa.sublist (List.take_sublist _ _)),List.pairwise_reverse.mpr (sb.sublist (List.take_sublist _ _)),by simp⟩ NW λq hq=>hl z0 q (by rw[hn']; exact NW) (zDb (List.mem_reverse.mp hq))
 refine v6 (wpS_lift (zCo ⟨rfl,?_⟩))
 refine v6 (bY (i:=a.size - 1) (by rw[hn']; exact NW) ?_)
 rw[hn']
 refine bD (λc=>zAa (h _ (gallopOf st) (tell1 _ n b.size j0 (by simpa using c)))) λc1=>?_
 refine bD (λc=>zAa (h _ (gallopOf st) (tell3 _ n b.size j0 (by simpa using c)))) λc2=>?_
 have ha2:1<=n:=by
  have:¬ n=0:=by simpa using c1
  omega
 have hb2:2<=b.size:=by
  have:¬ b.size=1:=by simpa using c2
  omega
 refine v6 (wpS_get ?_)
 refine v6 (zDl (zB0
  (I:=λx c st'=>∃out na nb mg g,c=(none,na,nb,out,mg)/\st'=bS st g/\JH rk a b out na nb/\1<=na/\2<=nb/\na<=n/\nb<=b.size/\na+nb+x+1<=a.size+b.size)
  (Q:=λc st'=>∃res g,c.1=some res/\st'=bS st g/\Fn rk a b res) (λx c st' uu yZ hI=>?_) (λc st' hI=>?_) ⟨#[z0],n,b.size,gallopOf st,gallopOf st,rfl,rfl,j0,ha2,hb2,x3 _,x3 _,by omega⟩) λc st' hI=>?_)
 rotate_left
 ·obtain⟨out,na,nb,mg,g,rfl,rfl,j,l1,l2,_,_,l3⟩:=hI
  rw[zB8 (zAw _)] at l3
  omega
 ·obtain⟨res,g,e,rfl,hres⟩:=hI
  obtain⟨c1,c2⟩:=c
  cases e
  exact zAa (h res g hres)
 obtain⟨out,na,nb,mg,g,rfl,rfl,j,l1,l2,m1,m2,l3⟩:=hI
 refine v6 (zDl (zB0
  (I:=λy c st'=>∃out jI jJ ac bc,c=(none,jI,jJ,out,ac,bc)/\st'=bS st g/\JH rk a b out jI jJ/\1<=jI/\2<=jJ/\jI<=n/\jJ<=b.size/\jI+jJ+min y 1<=na+nb)
  (Q:=λc st'=>st'=bS st g/\((∃out jI jJ ac bc,c=(none,jI,jJ,out,ac,bc)/\JH rk a b out jI jJ/\1<=jI/\2<=jJ/\jI<=n/\jJ<=b.size/\jI+jJ+1<=na+nb)\/∃res,c.1=some res/\Fn rk a b res)) (λy c st' hy1 Av hI=>?_) (λc st' hI=>?_) ⟨out,na,nb,0,0,rfl,rfl,j,l1,l2,m1,m2,by omega⟩) λc st' hI=>?_)
 ·obtain⟨out,jI,jJ,ac,bc,rfl,rfl,j,l1,l2,m1,m2,l4⟩:=hI
  obtain⟨n1,rfl⟩:∃k,jI=k+1:=⟨jI - 1,by omega⟩
  obtain⟨n2,rfl⟩:∃k,jJ=k+1:=⟨jJ - 1,by omega⟩
  obtain⟨p,hp,mp,dp⟩:=vW n1 (by omega)
  obtain⟨q,hq,mq,dq⟩:=vX n2 (by omega)
  refine v6 (bY (i:=n2) hq (v6 (bY (i:=n1) hp (v6 (R.lt _ q p _ hk mq mp ?_)))))
  by_cases c:rk q < rk p
  ·rw[zAm c]
   have j2:=tH j hp (by rw[dY hq]; exact tM (by rw[←dY hq]; exact j.sy) c)
   refine v6 (bY (i:=n1) hp (bD (λe=>zAa ⟨rfl,.inr ⟨_,rfl,tell1 _ n1 _ j2 (by simpa using e)⟩⟩) λe=>?_))
   have e':¬ n1=0:=by simpa using e
   exact bD (λ_=>zAa ⟨rfl,.inl ⟨out.push p,n1,n2+1,_,_,rfl,j2,by omega,l2,by omega,m2,by omega⟩⟩) λ_=>zAa ⟨out.push p,n1,n2+1,_,_,rfl,rfl,j2,by omega,l2,by omega,m2,by omega⟩
  ·rw[zAv c]
   have c':rk p < rk q:=by have:=j.ne' nd dp dq; omega
   have j2:=tK j hq (by rw[dY hp]; exact tM (by rw[←dY hp]; exact j.sx) c')
   refine v6 (bY (i:=n2) hq (bD (λe=>zAa ⟨rfl,.inr ⟨_,rfl,tell3 _ _ n2 j2 (by simpa using e)⟩⟩) λe=>?_))
   have e':¬ n2=1:=by simpa using e
   exact bD (λ_=>zAa ⟨rfl,.inl ⟨out.push q,n1+1,n2,_,_,rfl,j2,l1,by omega,m1,by omega,by omega⟩⟩) λ_=>zAa ⟨out.push q,n1+1,n2,_,_,rfl,rfl,j2,l1,by omega,m1,by omega,by omega⟩
 ·obtain⟨out,jI,jJ,ac,bc,rfl,rfl,j,l1,l2,m1,m2,l4⟩:=hI
  exact⟨rfl,.inl ⟨_,_,_,_,_,rfl,j,l1,l2,m1,m2,by rw[zB8 (zAw _)] at l4; omega⟩⟩
 obtain⟨rfl,⟨out,jI,jJ,ac,bc,rfl,j,l1,l2,m1,m2,l4⟩ | ⟨res,e,hres⟩⟩:=hI
 rotate_left
 ·obtain⟨c1,c2⟩:=c
  cases e
  exact zAa ⟨res,g,rfl,rfl,hres⟩
 dsimp -zeta only
 refine v6 (wpS_lift (zCo ⟨rfl,?_⟩))
 refine v6 (zDl (zB0
  (I:=λy c st'=>∃out na nb mg ac bc g,c=(none,na,nb,out,mg,ac,bc)/\st'=bS st g/\JH rk a b out na nb/\1<=na/\2<=nb/\na<=n/\nb<=b.size/\na+nb<=jI+jJ)
  (Q:=λc st'=>∃g,st'=bS st g/\((∃out na nb mg ac bc,c=(none,na,nb,out,mg,ac,bc)/\JH rk a b out na nb/\1<=na/\2<=nb/\na<=n/\nb<=b.size/\na+nb<=jI+jJ)\/∃res,c.1=some res/\Fn rk a b res)) (λy c st' hy1 Av hI=>?_) (λc st' hI=>?_) ⟨out,jI,jJ,_,_,_,g,rfl,rfl,j,l1,l2,m1,m2,x3 _⟩) λc st' hI=>?_)
 rotate_left
 ·obtain⟨out,na,nb,mg,ac,bc,g,rfl,rfl,j,l1,l2,m1,m2,l5⟩:=hI
  exact⟨g,rfl,.inl ⟨out,na,nb,mg,ac,bc,rfl,j,l1,l2,m1,m2,l5⟩⟩
 ·obtain⟨g,rfl,⟨out,na2,RB,Gi,ac,bc,rfl,j,l1,l2,m1,m2,l5⟩ | ⟨res,e,hres⟩⟩:=hI
  ·refine v6 (zEe (zAa ⟨out,na2,RB,_,Gi+1,rfl,rfl,j,l1,l2,m1,m2,by omega⟩))
  ·obtain⟨c1,c2⟩:=c
   cases e
   exact zAa ⟨res,g,rfl,rfl,hres⟩
 obtain⟨out,na,nb,Gi,ac,bc,g,rfl,rfl,j,l1,l2,m1,m2,l5⟩:=hI
 obtain⟨n2,rfl⟩:∃k,nb=k+1:=⟨nb - 1,by omega⟩
 obtain⟨q,hq,mq,dq⟩:=vX n2 (by omega)
 dsimp -zeta only
 extract_lets s1 na1 s2 nb1 s3 Te s4 Us s5 Ut Uu RB jp
 have rJ:∀T:ForInStep (Option (Array Keyed) × Nat × Nat × Array Keyed × Nat × Nat × Nat)->SortSt->Prop,(∀(res:Array Keyed) c g,Fn rk a b res->T (.done (some res,c)) (bS st g))->
   (∀(out:Array Keyed) na nb mg ac bc g,JH rk a b out na nb->1<=na->2<=nb->na<=n->nb<=b.size->na+nb<=jI+jJ->T (.done (none,na,nb,out,mg,ac,bc)) (bS st g)/\T (.yield (none,na,nb,out,mg,ac,bc)) (bS st g))->∀u m g,wpS M A E s (jp u m) T (bS st g):=by
  intro T tS tN u m g
  refine v6 (zEe (v6 (bY (i:=n2) hq (v6 (jH (base:=0) (n:=na) (st:=bS st m) R hk mq (λi h1 h2=>?_) (vV sa (by omega)) (by show na - 1 < na; omega) λk k1 k2 k3=>?_)))))
  ·obtain⟨p,h1,h2,_⟩:=vW i (by omega)
   exact⟨p,h1,h2⟩
  have lo:∀p∈(a.toList.take k).reverse,rk p < rk q:=λp hp=>by
   obtain⟨i,hi,e⟩:=Gj hp
   have:=k2 i hi
   unfold Bd at this
   rw[xL (by decide),Nat.zero_add,fN e] at this
   have h2:¬ rk q < rk p:=by simpa using this
   have h3:=j.ne' nd (p:=p) (q:=q) (by rw[tL a k1]; exact zBm _ hp) dq
   omega
  have up:∀p∈(a.extract k na).reverse.toList,rk q < rk p:=λp hp=>by
   obtain⟨i,hi,hi2,e⟩:=Dm k1 hp
   have:=k3 i hi hi2
   unfold Bd at this
   rw[xL (by decide),Nat.zero_add,fN e] at this
   simpa using this
  dsimp -zeta only
  extract_lets kk Uv jp2
  have hjp2:∀(u:Unit) (na2:Nat) (out:Array Keyed),JH rk a b out na2 (n2+1)->na2<=na->1<=na2->(∀p∈(a.toList.take na2).reverse,rk p < rk q)->wpS M A E s (jp2 u na2 out) T (bS st m):=by
   intro u na2 out j h1 h2 h3
   have j2:=tK j hq h3
   obtain⟨n1,rfl⟩:∃k,na2=k+1:=⟨na2 - 1,by omega⟩
   obtain⟨p,hp,mp,dp⟩:=vW n1 (by omega)
   refine v6 (bY (i:=n2) hq (bD (λe=>zAa (tS _ _ _ (tell3 _ _ n2 j2 (eq_of_beq e)))) λe=>?_))
   have e':¬ n2=1:=λz=>e (zDz.mpr z)
   refine v6 (bY (i:=n1) hp (v6 (jH (base:=0) (n:=n2) (st:=bS st m) R hk mp (λi h1 h2=>?_) (vV sb (by omega)) (by show n2 - 1 < n2; omega) λk k1 k2 k3=>?_)))
   ·obtain⟨p,h1,h2,_⟩:=vX i (by omega)
    exact⟨p,h1,h2⟩
   have lo:∀z∈(b.toList.take k).reverse,rk z < rk p:=λz hz=>by
    obtain⟨i,hi,e⟩:=Gj hz
    have:=k2 i hi
    unfold Bd at this
    rw[x4 rfl,Nat.zero_add,fN e] at this
    simpa using this
   have up:∀z∈(b.extract k n2).reverse.toList,rk p < rk z:=λz hz=>by
    obtain⟨i,hi,hi2,e⟩:=Dm k1 hz
    have:=k3 i hi hi2
    unfold Bd at this
    rw[x4 rfl,Nat.zero_add,fN e] at this
    have h2:¬ rk z < rk p:=by simpa using this
    have h3:=j2.ne' nd (p:=p) (q:=z) dp (by rw[tL b k1]; exact zCv _ hz)
    omega
   dsimp -zeta only
   extract_lets XG Uw XH jp3
   have A2:∀(u:Unit) (nb3:Nat) (out:Array Keyed),JH rk a b out (n1+1) nb3->nb3<=n2->2<=nb3->(∀z∈(b.toList.take nb3).reverse,rk z < rk p)->wpS M A E s (jp3 u nb3 out) T (bS st m):=by
    intro u nb3 out j h4 h5 h6
    have j3:=tH j hp h6
    refine v6 (bY (i:=n1) hp (bD (λe=>zAa (tS _ _ _ (tell1 _ n1 _ j3 (eq_of_beq e)))) λe=>?_))
    have e':¬ n1=0:=λz=>e (zDz.mpr z)
    have tt:=λac bc=>tN _ n1 nb3 m ac bc m j3 (by omega) h5 (by omega) (by omega) (by omega)
    exact bD (λ_=>zAa (tt _ _).1) λ_=>zAa (tt _ _).2
   clear_value jp3
   refine bD (λkp=>?_) λkp=>?_
   ·have j3:JH rk a b (out.push q++(b.extract k n2).reverse) (n1+1) k:=by
     unfold JH at j2
     rw[tL b k1] at j2
     unfold JH
     rw[zA7]
     refine j2.take' λz hz x hx=>?_
     rw[dY hp] at hx
     exact tM (by rw[←dY hp]; exact j2.sx) (up z hz) x hx
    refine bD (λe=>zAa (tS _ _ _ (tell3 _ _ _ j3 (by simpa using e)))) λe=>?_
    refine bD (λe=>zAa (tS _ _ _ (tell2 _ _ _ j3 (by simpa using e)))) λe2=>?_
    have e':¬ k=1:=by simpa using e
    have Ux:¬ k=0:=by simpa using e2
    exact A2 _ k _ j3 k1 (by omega) lo
   ·have k0:k=n2:=by
     have:¬ (n2 - k > 0):=kp
     omega
    subst k0
    exact A2 _ k _ j2 (x3 _) (by omega) lo
  clear_value jp2
  refine bD (λkp=>?_) λkp=>?_
  ·have j2:JH rk a b (out++(a.extract k na).reverse) k (n2+1):=by
    unfold JH at j
    rw[tL a k1] at j
    unfold JH
    rw[zA7]
    refine j.take λz hz x hx=>?_
    rw[dY hq] at hx
    exact tM (by rw[←dY hq]; exact j.sy) (up z hz) x hx
   refine bD (λe=>zAa (tS _ _ _ (tell1 _ _ _ j2 (by simpa using e)))) λe=>?_
   have e':¬ k=0:=by simpa using e
   exact hjp2 _ k _ j2 k1 (by omega) lo
  ·have k0:k=na:=by
    have:¬ (na - k > 0):=kp
    omega
   subst k0
   exact hjp2 _ k _ j (x3 _) l1 lo
 clear_value jp
 refine bD (λ_=>rJ _ ?_ ?_ _ _ _) λ_=>rJ _ ?_ ?_ _ _ _
 all_goals first | exact λres c g hr=>⟨g,rfl,.inr ⟨res,rfl,hr⟩⟩ | exact λout na nb mg ac bc g j l1 l2 m1 m2 l5=>⟨⟨g,rfl,.inl ⟨out,na,nb,mg,ac,bc,rfl,j,l1,l2,m1,m2,l5⟩⟩,⟨out,na,nb,mg,ac,bc,g,rfl,rfl,j,l1,l2,m1,m2,l5⟩⟩
end
abbrev m7 (rk:Keyed->Nat) (l:List Keyed):Prop:=l.Pairwise λp q=>rk p < rk q
theorem i6 {α:Type}{xs:Array α}{P X S:List α}(h:xs.toList=P++(X++S)){i:Nat}(hi:i < X.length):xs[P.length+i]?=X[i]?:=by
 rw[←zAc,h,zAz (by omega),zCh,zA8 hi]
theorem Gm {α:Type}{xs:Array α}{P X S:List α}(h:xs.toList=P++(X++S)){i j:Nat}(hi:i=P.length)(hj:j=i+X.length):(xs.extract i j).toList=X:=by
 subst hi hj
 rw[zDe,zCp,h,List.drop_left,zCh,List.take_left]
theorem Gp {rk:Keyed->Nat}{xs:Array Keyed}{P X S:List Keyed}(h:xs.toList=P++(X++S))(sX:m7 rk X):Up rk xs P.length (P.length+X.length):=λi j h1 h2 h3=>by
 have e1:=i6 h (i:=i - P.length) (by omega)
 have e2:=i6 h (i:=j - P.length) (by omega)
 rw[show P.length+(i - P.length)=i by omega,xI (by omega)] at e1
 rw[show P.length+(j - P.length)=j by omega,xI (by omega)] at e2
 rw[fN e1,fN e2]
 exact zCn.mp sX _ _ _ _ (by omega)
theorem mid_up {rk:Keyed->Nat}{xs:Array Keyed}{P X S:List Keyed}(h:xs.toList=P++(X++S))(u:Up rk xs P.length (P.length+X.length)):m7 rk X:=by
 refine zCn.mpr λi j hi hj hij=>?_
 have:=u (P.length+i) (P.length+j) (by omega) (by omega) (by omega)
 have e1:=i6 h hi
 have e2:=i6 h hj
 rw[xI hi] at e1
 rw[xI hj] at e2
 rwa [fN e1,fN e2] at this
theorem A4 {α:Type}:∀(Z:List α) (base j:Nat) (xs:Array α) (U V W:List α),xs.toList=U++(V++W)->V.length=Z.length->U.length=base+j->((Z.zipIdx j).foldl (λa x=>a.setIfInBounds (base+x.2) x.1) xs).toList=U++(Z++W)
 | [],base,j,xs,U,V,W,h,hv,hu=>by
  have:V=[]:=List.eq_nil_of_length_eq_zero hv
  rw[this] at h
  exact h
 | z::Z,base,j,xs,U,V,W,h,hv,hu=>by
  cases V with
  | nil=>cases hv
  | cons v V=>
   have e:(xs.setIfInBounds (base+j) z).toList=(U++[z])++(V++W):=by
    rw[Array.toList_setIfInBounds,h,←hu,List.set_append,xL (by omega),zD7]
    simp
   have:=A4 Z base (j+1) (xs.setIfInBounds (base+j) z) (U++[z]) V W e (by simpa using hv) (by simp [hu]; omega)
   rw[List.zipIdx_cons,foldl_cons,this]
   simp
section
variable {M:Model}{A:Around}{E:zzE}{s:Shared}{κ:SortKind}{a0:Array Keyed}{rk:Keyed->Nat}{st:SortSt}
theorem NX {st':SortSt}{Q:PUnit->SortSt->Prop}(h:Q ⟨⟩ st'):wpS M A E s (set st':StateT SortSt Sem PUnit) Q st:=by
 unfold wpS; rw[StateT.run_set]; exact y6 ⟨rfl,h⟩
theorem EL (R:Rk M A E s κ a0 rk)(hS:e_ κ a0 st){i sa na nb pw Kn:Nat}{P X Y S:List Keyed}{Q:Bool->SortSt->Prop}(h1:(pendingOf st)[i]?=some (sa,na,pw))(h2:(pendingOf st)[i+1]?=some (sa+na,nb,Kn))
  (hx:(arrOf st).toList=P++(X++(Y++S))) (hP:P.length=sa) (hX:X.length=na) (hY:Y.length=nb) (sX:m7 rk X) (sY:m7 rk Y) (na1:1<=na) (nb1:1<=nb)
  (h:∀Z ys g,Z.Perm (X++Y)->m7 rk Z->ys.toList=P++(Z++S)->Q true (SortSt.mk' (kindOf st) ys (((pendingOf st).setIfInBounds i (sa,na+nb,pw)).eraseIdxIfInBounds (i+1)) g (failedOf st))):wpS M A E s (mergeAt' i) Q st:=by
 subst hP hX hY
 have nd:((arrOf st).toList.map rk).Nodup:=((zC1.mp hS.perm).map rk).nodup_iff.mpr R.nd
 have mem:∀p∈(arrOf st).toList,p∈a0.toList:=λp hp=>(zC1.mp hS.perm).mem_iff.mp hp
 have hy:(arrOf st).toList=(P++X)++(Y++S):=by rw[hx,zA4]
 have hpx:(P++X).length=P.length+X.length:=zAb
 have Uy:∀j,P.length<=j->j < P.length+X.length->∃x,(arrOf st)[j]?=some x/\x∈a0.toList:=λj a b=>by
  have:=i6 hx (i:=j - P.length) (by omega)
  rw[show P.length+(j - P.length)=j by omega,xI (by omega)] at this
  exact⟨_,this,mem _ (by rw[hx]; simp)⟩
 have Uz:∀j,P.length+X.length<=j->j < P.length+X.length+Y.length->∃x,(arrOf st)[j]?=some x/\x∈a0.toList:=λj a b=>by
  have:=i6 hy (i:=j - (P++X).length) (by omega)
  rw[show (P++X).length+(j - (P++X).length)=j by omega,xI (by omega)] at this
  exact⟨_,this,mem _ (by rw[hx]; simp)⟩
 have gX:∀j (hj:j < X.length),G rk (arrOf st) (P.length+j)=rk X[j]:=λj hj=>fN (by rw[i6 hx hj,xI hj])
 have gY:∀j (hj:j < Y.length),G rk (arrOf st) (P.length+X.length+j)=rk Y[j]:=λj hj=>fN (by rw[←hpx,i6 hy hj,xI hj])
 have ne:∀p∈X,∀q∈Y,rk p≠rk q:=λp hp q hq=>by
  rw[hx,v4,v4,v4] at nd
  have h2:=(zB5.mp (zB5.mp nd).2.1).2.2
  exact h2 _ (zA5 hp) _ (zCv _ (zA5 hq))
 have eb:(arrOf st)[P.length+X.length]?=some Y[0]:=by
  have:=i6 hy (i:=0) nb1
  rw[zD2,hpx,xI nb1] at this
  exact this
 have b_least:∀q∈Y,rk Y[0]<=rk q:=λq hq=>by
  obtain⟨j,hj,e⟩:=zDc.mp hq
  rw[←e]
  by_cases z:j=0
  ·subst z; exact x3 _
  ·exact le_of_lt (zCn.mp sY 0 j nb1 hj (by omega))
 have a_most:∀p∈X,rk p<=rk (X[X.length - 1]'(by omega)):=λp hp=>by
  obtain⟨j,hj,e⟩:=zDc.mp hp
  rw[←e]
  by_cases z:j=X.length - 1
  ·subst z; exact x3 _
  ·exact le_of_lt (zCn.mp sX j (X.length - 1) hj (by omega) (by omega))
 refine v6 (wpS_get ?_)
 dsimp -zeta only
 rw[h1,h2]
 refine v6 (NX ?_)
 refine v6 (bY eb (v6 (jH (st:=SortSt.mk' (kindOf st) (arrOf st) (((pendingOf st).setIfInBounds i (P.length,X.length+Y.length,pw)).eraseIdxIfInBounds (i+1)) (gallopOf st) (failedOf st)) R hS.kind (mem Y[0] (by rw[hx]; simp)) Uy (Gp hx sX) na1 λk k1 k2 k3=>?_)))
 have lo:∀p∈X.take k,rk p < rk Y[0]:=λp hp=>by
  obtain⟨j,hj,e⟩:=List.mem_take_iff_getElem.mp hp
  have:=k2 j (by omega)
  unfold Bd at this
  rw[xL (by decide),gX j (by omega)] at this
  have h3:¬ rk Y[0] < rk X[j]:=by simpa using this
  have:=ne X[j] (zB9 _) Y[0] (zB9 _)
  rw[←e]
  omega
 have up:∀p∈X.drop k,rk Y[0] < rk p:=λp hp=>by
  obtain⟨j,hj,e⟩:=List.mem_drop_iff_getElem.mp hp
  have:=k3 (k+j) (by omega) (by omega)
  unfold Bd at this
  rw[xL (by decide),gX (k+j) (by omega)] at this
  have h3:rk Y[0] < rk X[k+j]:=by simpa using this
  rw[←e]
  have e4:k+j=j+k:=Nat.add_comm _ _
  simpa [e4] using h3
 refine bD (λe=>?_) λe=>?_
 ·have ek:X.length - k=0:=eq_of_beq e
  have et:X.take k=X:=zC0 (by omega)
  exact zAa (h (X++Y) (arrOf st) (gallopOf st) (List.Perm.refl _) (zBu.mpr ⟨sX,sY,λp hp q hq=>zAx (lo p (by rw[et]; exact hp)) (b_least q hq)⟩) (by rw[hx,zA4]))
 have kl:k < X.length:=by
  have:¬ X.length - k=0:=λz=>e (zDz.mpr z)
  omega
 have el:(arrOf st)[P.length+k+(X.length - k) - 1]?=some (X[X.length - 1]'(by omega)):=by
  have:=i6 hx (i:=X.length - 1) (by omega)
  rw[xI (by omega)] at this
  rw[←this]
  congr 1
  omega
 have mX:X[X.length - 1]'(by omega)∈X:=zB9 _
 refine v6 (bY el (v6 (jH (base:=P.length+X.length) (n:=Y.length) (st:=SortSt.mk' (kindOf st) (arrOf st) (((pendingOf st).setIfInBounds i (P.length,X.length+Y.length,pw)).eraseIdxIfInBounds (i+1)) (gallopOf st) (failedOf st)) R hS.kind (mem (X[X.length - 1]'(by omega)) (by rw[hx]; simp)) Uz (by rw[←hpx]; exact Gp hy sY) (by show Y.length - 1 < Y.length; omega) λk' j1 j2 j3=>?_)))
 have lo2:∀q∈Y.take k',rk q < rk (X[X.length - 1]'(by omega)):=λp hp=>by
  obtain⟨j,hj,e⟩:=List.mem_take_iff_getElem.mp hp
  have:=j2 j (by omega)
  unfold Bd at this
  rw[x4 rfl,gY j (by omega)] at this
  rw[←e]
  simpa using this
 have up2:∀q∈Y.drop k',rk (X[X.length - 1]'(by omega)) < rk q:=λp hp=>by
  obtain⟨j,hj,e⟩:=List.mem_drop_iff_getElem.mp hp
  have:=j3 (k'+j) (by omega) (by omega)
  unfold Bd at this
  rw[x4 rfl,gY (k'+j) (by omega)] at this
  have h3:¬ rk Y[k'+j] < rk (X[X.length - 1]'(by omega)):=by simpa using this
  have h4:=ne _ mX Y[k'+j] (zB9 _)
  have h5:rk (X[X.length - 1]'(by omega)) < rk Y[k'+j]:=by omega
  rw[←e]
  have e4:k'+j=j+k':=Nat.add_comm _ _
  simpa [e4] using h5
 refine bD (λe=>?_) λe2=>?_
 ·have ek:k'=0:=eq_of_beq e
  have et:Y.drop k'=Y:=by rw[ek]; rfl
  exact zAa (h (X++Y) (arrOf st) (gallopOf st) (List.Perm.refl _) (zBu.mpr ⟨sX,sY,λp hp q hq=>zDs (a_most p hp) (up2 q (by rw[et]; exact hq))⟩) (by rw[hx,zA4]))
 have XI:1<=k':=by
  have:¬ k'=0:=λz=>e2 (zDz.mpr z)
  omega
 have eX:X=X.take k++X.drop k:=(zB3 k X).symm
 have eY:Y=Y.take k'++Y.drop k':=(zB3 k' Y).symm
 have hz:(arrOf st).toList=(P++X.take k)++((X.drop k++Y.take k')++(Y.drop k'++S)):=by
  rw[hx]
  conv=>lhs; rw[eX,eY]
  simp only [zA4]
 have ha:((arrOf st).extract (P.length+k) (P.length+X.length)).toList=X.drop k:=Gm (P:=P++X.take k) (S:=Y++S) (by rw[hx]; conv=>{ lhs; rw[eX] }; simp only [zA4]) (by simp; omega) (by simp; omega)
 have hb:((arrOf st).extract (P.length+X.length) (P.length+X.length+k')).toList=Y.take k':=Gm (P:=P++X) (S:=Y.drop k'++S) (by rw[hx]; conv=>{ lhs; rw[eY] }; simp only [zA4]) (by simp) (by simp; omega)
 have fin:∀(res:Array Keyed) (st':SortSt) g,res.toList.Perm (X.drop k++Y.take k')/\m7 rk res.toList->st'=SortSt.mk' (kindOf st) (arrOf st) (((pendingOf st).setIfInBounds i (P.length,X.length+Y.length,pw)).eraseIdxIfInBounds (i+1)) g (failedOf st)->
   Q true (SortSt.mk' (kindOf st') (res.toList.zipIdx.foldl (λa x=>a.setIfInBounds (P.length+k+x.2) x.1) (arrOf st')) (pendingOf st') (gallopOf st') (failedOf st')):=by
  rintro res st' g ⟨pm,UA⟩ rfl
  have hw:=A4 res.toList (P.length+k) 0 (arrOf st) (P++X.take k) (X.drop k++Y.take k') (Y.drop k'++S) hz (by rw[pm.length_eq]) (by simp; omega)
  refine h (X.take k++(res.toList++Y.drop k')) _ g ?_ ?_ ?_
  ·have:(X.take k++((X.drop k++Y.take k')++Y.drop k')).Perm (X++Y):=by
    conv=>rhs; rw[eX,eY]
    simp only [zA4]
    exact List.Perm.refl _
   exact (List.Perm.append_left _ (List.Perm.append_right _ pm)).trans this
  ·have sx:=zBu.mp (eX ▸ sX:m7 rk (X.take k++X.drop k))
   have sy:=zBu.mp (eY ▸ sY:m7 rk (Y.take k'++Y.drop k'))
   refine zBu.mpr ⟨sx.1,zBu.mpr ⟨UA,sy.2.1,λp hp q hq=>?_⟩,λp hp q hq=>?_⟩
   ·rcases wT.mp (pm.mem_iff.mp hp) with z | z
    ·exact zDs (a_most p (zCi z)) (up2 q hq)
    ·exact sy.2.2 p z q hq
   ·rcases wT.mp hq with z | z
    ·rcases wT.mp (pm.mem_iff.mp z) with z | z
     ·exact sx.2.2 p hp q z
     ·exact zAx (lo p hp) (b_least q (zDb z))
    ·exact zAx (lo p hp) (b_least q (zCi z))
  ·exact hw.trans (by simp only [zA4])
 have g1:∀p∈X.drop k++Y.take k',p∈a0.toList:=λp hp=>mem p (by rw[hz]; exact zBm _ (zCv _ hp))
 have g2:((X.drop k++Y.take k').map rk).Nodup:=by
  rw[hz,v4] at nd
  have:=(zB5.mp nd).2.1
  rw[v4] at this
  exact (zB5.mp this).1
 have g3:m7 rk (X.drop k):=sX.sublist (List.drop_sublist _ _)
 have g4:m7 rk (Y.take k'):=sY.sublist (List.take_sublist _ _)
 generalize hxa:(arrOf st).extract (P.length+k) (P.length+X.length)=xa at ha
 generalize XJ:(arrOf st).extract (P.length+X.length) (P.length+X.length+k')=yb at hb
 have s1:xa.size=X.length - k:=by rw[←u8,ha,zBx]
 have s2:yb.size=k':=by rw[←u8,hb,zA9]; omega
 have f1:∀p q,yb[0]?=some p->q∈xa.toList->rk p < rk q:=λp q e hq=>by
  rw[←zAc,hb,List.getElem?_take,x4 (by omega),xI nb1] at e
  cases e
  rw[ha] at hq
  exact up q hq
 have f2:∀p q,xa[xa.size - 1]?=some p->q∈yb.toList->rk q < rk p:=λp q e hq=>by
  rw[←zAc,ha,zDr,xI (by omega)] at e
  cases e
  rw[hb] at hq
  have:=lo2 q hq
  have e5:k+(xa.size - 1)=X.length - 1:=by omega
  simp only [e5]
  exact this
 rw[←ha,←hb] at g1 g2
 rw[←ha] at g3
 rw[←hb] at g4
 extract_lets x y jp
 have rJ:∀(res:Array Keyed) g,(res.toList.Perm (xa.toList++yb.toList)/\m7 rk res.toList)->wpS M A E s (jp res) Q (bS (SortSt.mk' (kindOf st) (arrOf st) (((pendingOf st).setIfInBounds i (P.length,X.length+Y.length,pw)).eraseIdxIfInBounds (i+1)) (gallopOf st) (failedOf st)) g):=λres g hr=>by
  refine v6 (zEe (v6 (wpS_get (zAa ?_))))
  have e:(failedOf st).isNone=true:=by rw[hS.failed]; rfl
  show Q (failedOf st).isNone _
  rw[e]
  rw[ha,hb] at hr
  exact fin res _ g hr rfl
 clear_value jp
 have t1:1<=xa.size:=by omega
 have t2:1<=yb.size:=by omega
 exact bD (λ_=>v6 (EJ (st:=(SortSt.mk' (kindOf st) (arrOf st) (((pendingOf st).setIfInBounds i (P.length,X.length+Y.length,pw)).eraseIdxIfInBounds (i+1)) (gallopOf st) (failedOf st))) R hS.kind g1 g2 g3 g4 t1 t2 f1 f2 rJ)) λ_=>v6 (EK (st:=(SortSt.mk' (kindOf st) (arrOf st) (((pendingOf st).setIfInBounds i (P.length,X.length+Y.length,pw)).eraseIdxIfInBounds (i+1)) (gallopOf st) (failedOf st))) R hS.kind g1 g2 g3 g4 t1 t2 f1 f2 rJ)
end
noncomputable def Ch (rk:Keyed->Nat):List (Nat × Nat × Nat)->Nat->Nat->List Keyed->List Keyed->Prop
 | [],a,b,l,r=>a=b/\l=r
 | (s,n,_)::ps,a,b,l,r=>s=a/\1<=n/\∃X l',l=X++l'/\X.length=n/\m7 rk X/\Ch rk ps (a+n) b l' r
section
variable {rk:Keyed->Nat}
theorem rK:∀{p q:List (Nat × Nat × Nat)} {a b:Nat} {l r:List Keyed},Ch rk (p++q) a b l r↔∃m l1,Ch rk p a m l l1/\Ch rk q m b l1 r
 | [],q,a,b,l,r=>⟨λh=>⟨a,l,⟨rfl,rfl⟩,h⟩,λ⟨m,l1,⟨e1,e2⟩,h⟩=>by rw[e1,e2]; exact h⟩
 | (s,n,w)::p,q,a,b,l,r=>by
  constructor
  ·rintro⟨h1,h2,X,l',h3,h4,h5,h6⟩
   obtain⟨m,l1,h7,h8⟩:=rK.mp h6
   exact⟨m,l1,⟨h1,h2,X,l',h3,h4,h5,h7⟩,h8⟩
  ·rintro⟨m,l1,⟨h1,h2,X,l',h3,h4,h5,h7⟩,h8⟩
   exact⟨h1,h2,X,l',h3,h4,h5,rK.mpr ⟨m,l1,h7,h8⟩⟩
theorem rN:∀{p:List (Nat × Nat × Nat)} {a b:Nat} {l r:List Keyed},Ch rk p a b l r->∃W,l=W++r/\a+W.length=b/\p.length<=W.length/\∀r2,Ch rk p a b (W++r2) r2
 | [],a,b,l,r,h=>⟨[],h.2,h.1,x3 _,λ_=>⟨h.1,rfl⟩⟩
 | (s,n,w)::p,a,b,l,r,⟨h1,h2,X,l',h3,h4,h5,h6⟩=>by
  obtain⟨W,w1,w2,w3,w4⟩:=rN h6
  refine⟨X++W,by rw[h3,w1,zA4],by rw[zAb]; omega,by rw[zAb,zBq]; omega,λr2=>⟨h1,h2,X,W++r2,by rw[zA4],h4,h5,w4 r2⟩⟩
theorem Ko:∀{p q:List (Nat × Nat × Nat)} {a b:Nat} {l r:List Keyed},p.map (λx=>(x.1,x.2.1))=q.map (λx=>(x.1,x.2.1))->Ch rk p a b l r->Ch rk q a b l r
 | [],[],a,b,l,r,_,h=>h
 | (s,n,w)::p,(s',n',w')::q,a,b,l,r,e,⟨h1,h2,X,l',h3,h4,h5,h6⟩=>by
  simp only [zAo,List.cons.injEq,Prod.mk.injEq] at e
  obtain⟨⟨rfl,rfl⟩,e⟩:=e
  exact⟨h1,h2,X,l',h3,h4,h5,Ko e h6⟩
 | [],y::q,_,_,_,_,e,_=>by simp at e
 | x::p,[],_,_,_,_,e,_=>by simp at e
theorem CM (p:Array (Nat × Nat × Nat))(w:Nat):(p.modify (p.size - 1) λx=>(x.1,x.2.1,w)).toList.map (λx=>(x.1,x.2.1))=p.toList.map (λx=>(x.1,x.2.1)):=by
 refine List.ext_getElem? λi=>?_
 rw[wP,wP,zAc,zAc,Array.getElem?_modify]
 split
 ·rw[Option.map_map]; rfl
 ·rfl
end
section
variable {M:Model}{A:Around}{E:zzE}{s:Shared}{κ:SortKind}{a0:Array Keyed}{rk:Keyed->Nat}{st:SortSt}
theorem vY (R:Rk M A E s κ a0 rk)(hS:e_ κ a0 st){i lo:Nat}{rest:List Keyed}{Q:Bool->SortSt->Prop}(hc:Ch rk (pendingOf st).toList 0 lo (arrOf st).toList rest)(hi:i+1 < (pendingOf st).size)
  (h:∀st',e_ κ a0 st'->Ch rk (pendingOf st').toList 0 lo (arrOf st').toList rest->(pendingOf st').size+1=(pendingOf st).size->Q true st'):wpS M A E s (mergeAt' i) Q st:=by
 obtain⟨p1,x,y,p2,e,el⟩:∃p1 x y p2,(pendingOf st).toList=p1++(x::y::p2)/\p1.length=i:=by
  refine⟨(pendingOf st).toList.take i,(pendingOf st)[i],(pendingOf st)[i+1],(pendingOf st).toList.drop (i+2),?_,by simp; omega⟩
  have e1:(pendingOf st).toList.drop i=(pendingOf st)[i]::(pendingOf st)[i+1]::(pendingOf st).toList.drop (i+2):=by
   rw[zCb (by simp; omega),zCb (by simp; omega)]
   rfl
  rw[←e1,zB3]
 obtain⟨sa,na,pw⟩:=x
 obtain⟨sb,nb,Kn⟩:=y
 have h1:(pendingOf st)[i]?=some (sa,na,pw):=by rw[←zAc,e,zAz (by omega),el,zD7]; rfl
 have h2:(pendingOf st)[i+1]?=some (sb,nb,Kn):=by rw[←zAc,e,zAz (by omega),el,zCh]; rfl
 rw[e] at hc
 obtain⟨m,l1,c1,rfl,n1,X,l2,e2,rfl,sX,rfl,n2,Y,l3,e3,rfl,sY,c2⟩:=rK.mp hc
 obtain⟨W,w1,w2,w3,w4⟩:=rN c1
 rw[e2,e3] at w1
 have ep:(((pendingOf st).setIfInBounds i (sa,X.length+Y.length,pw)).eraseIdxIfInBounds (i+1)).toList=p1++((sa,X.length+Y.length,pw)::p2):=by
  rw[Array.toList_eraseIdxIfInBounds,Array.toList_setIfInBounds,e,List.set_append,xL (by omega),el,zD7]
  show (p1++((sa,X.length+Y.length,pw)::(sa+X.length,Y.length,Kn)::p2)).eraseIdx (i+1)=_
  rw[List.eraseIdx_append_of_length_le (by omega),el,zCh]
  rfl
 refine EL R hS h1 h2 w1 (by omega) rfl rfl sX sY n1 n2 λZ ys g pz sZ ey=>?_
 refine h _ ⟨hS.kind,hS.failed,?_⟩ ?_ ?_
 ·refine Array.Perm.trans (zC1.mpr ?_) hS.perm
  show ys.toList.Perm (arrOf st).toList
  rw[ey,w1]
  refine List.Perm.append_left _ ?_
  rw[←zA4]
  exact List.Perm.append_right _ pz
 ·show Ch rk (((pendingOf st).setIfInBounds i (sa,X.length+Y.length,pw)).eraseIdxIfInBounds (i+1)).toList 0 lo ys.toList rest
  rw[ep,ey]
  refine rK.mpr ⟨sa,Z++l3,w4 _,rfl,by omega,Z,l3,rfl,by rw[pz.length_eq,zAb],sZ,?_⟩
  rw[←Nat.add_assoc]
  exact c2
 ·show (((pendingOf st).setIfInBounds i (sa,X.length+Y.length,pw)).eraseIdxIfInBounds (i+1)).size+1=(pendingOf st).size
  rw[←u8,←u8,ep,e]
  simp
  omega
theorem LV (R:Rk M A E s κ a0 rk)(hS:e_ κ a0 st){Q:Unit->SortSt->Prop}(hp:pendingOf st=#[])
  (h:∀st',e_ κ a0 st'->m7 rk (arrOf st').toList->Q () st'):wpS M A E s sortRuns' Q st:=by
 rw[sortRuns'_eq]
 refine v6 (wpS_get ?_)
 have sz:=hS.size
 rw[sz]
 extract_lets size mr XM
 have es:size=a0.size:=rfl
 clear_value size mr
 subst es
 refine v6 (zDl (zB0
  (I:=λx c st'=>∃lo,c=(none,lo)/\e_ κ a0 st'/\Ch rk (pendingOf st').toList 0 lo (arrOf st').toList ((arrOf st').toList.drop lo)/\lo<=a0.size/\x<=lo)
  (Q:=λc st'=>c=(none,a0.size)/\e_ κ a0 st'/\Ch rk (pendingOf st').toList 0 a0.size (arrOf st').toList []) (λx c st' uu yZ hI=>?_) (λc st' hI=>?_) ⟨0,rfl,hS,by rw[hp]; exact⟨rfl,rfl⟩,zAw _,x3 _⟩) λc st' hI=>?_)
 ·obtain⟨lo,rfl,hS1,hc,l1,l2⟩:=hI
  dsimp -zeta only
  refine bD (λc=>?_) λc=>?_
  ·have c:a0.size<=lo:=c
   have:lo=a0.size:=by omega
   subst this
   refine zAa ⟨rfl,hS1,?_⟩
   rwa [List.drop_eq_nil_of_le (by simp [hS1.size])] at hc
  have c:¬ a0.size<=lo:=c
  refine v6 (IX R hS1 (by omega) (by omega) λm xs pm kp m1 m2 u=>?_)
  dsimp -zeta only
  extract_lets n jp
  have rJ:∀T:ForInStep (Option Unit × Nat)->SortSt->Prop,(∀st2 lo2,e_ κ a0 st2->Ch rk (pendingOf st2).toList 0 lo2 (arrOf st2).toList ((arrOf st2).toList.drop lo2)->lo2<=a0.size->x+1<=lo2->T (.yield (none,lo2)) st2)->
    ∀(v:Unit) (n:Nat) (xs:Array Keyed),xs.Perm (arrOf st')->(∀k:Nat,k < lo->xs[k]?=(arrOf st')[k]?)->1<=n->lo+n<=a0.size->Up rk xs lo (lo+n)->wpS M A E s (jp v n) T (setArr st' xs):=by
   intro T hT v n xs pm kp n1 n2 u
   obtain⟨W,w1,w2,w3,w4⟩:=rN hc
   have hz:xs.size=a0.size:=(pm.trans hS1.perm).size_eq
   have eW:W=xs.toList.take lo:=by
    have:W=(arrOf st').toList.take lo:=by rw[w1,List.take_left' (by omega)]
    rw[this]
    refine List.ext_getElem? λk=>?_
    rw[List.getElem?_take,List.getElem?_take]
    split
    ·rename_i ck
     rw[zAc,zAc,kp k ck]
    ·rfl
   have ex:xs.toList=W++xs.toList.drop lo:=by rw[eW,zB3]
   have hc2:Ch rk (pendingOf st').toList 0 lo xs.toList (xs.toList.drop lo):=by
    conv=>{ arg 5; rw[ex] }
    exact w4 _
   obtain⟨X,l',eX,lX⟩:∃X l',xs.toList.drop lo=X++l'/\X.length=n:=⟨(xs.toList.drop lo).take n,(xs.toList.drop lo).drop n,(zB3 _ _).symm,by simp; omega⟩
   have sX:m7 rk X:=mid_up (P:=W) (S:=l') (by rw[ex,eX]) (by rw[show W.length=lo by omega,lX]; exact u)
   refine v6 (wpS_get ?_)
   extract_lets lo2 jp2
   have hjp2:∀(v:Unit) (st2:SortSt),e_ κ a0 st2->Ch rk (pendingOf st2).toList 0 lo (arrOf st2).toList (xs.toList.drop lo)->wpS M A E s (jp2 v) T st2:=by
    intro v st2 fL hc
    refine v6 (zEe (zAa (hT (setPending st2 ((pendingOf st2).push (lo,n,0))) (lo+n) ⟨fL.kind,fL.failed,fL.perm⟩ ?_ n2 (by omega))))
    show Ch rk ((pendingOf st2).push (lo,n,0)).toList 0 (lo+n) (arrOf st2).toList ((arrOf st2).toList.drop (lo+n))
    obtain⟨W2,v1,v2,_⟩:=rN hc
    have e9:(arrOf st2).toList.drop (lo+n)=l':=by
     rw[v1,eX,←zA4]
     exact List.drop_left' (by rw[zAb]; omega)
    rw[e9,zDi]
    exact rK.mpr ⟨lo,_,hc,rfl,n1,X,l',eX,lX,sX,rfl,rfl⟩
   clear_value jp2
   have fL:e_ κ a0 (setArr st' xs):=hS1.set pm
   cases e:(pendingOf (setArr st' xs)).back? with
   | none=>exact hjp2 _ _ fL hc2
   | some t=>
    obtain⟨s1,XN,w⟩:=t
    dsimp -zeta only
    refine v6 (zDl (zB0 (I:=λ_ c st2=>c=(none,())/\e_ κ a0 st2/\Ch rk (pendingOf st2).toList 0 lo (arrOf st2).toList (xs.toList.drop lo)) (Q:=λc st2=>c=(none,())/\e_ κ a0 st2/\Ch rk (pendingOf st2).toList 0 lo (arrOf st2).toList (xs.toList.drop lo)) (λy c st2 _ _ hI=>?_) (λc st2 hI=>hI) ⟨rfl,fL,hc2⟩) λc st2 hI=>?_)
    ·obtain⟨rfl,q_,hc3⟩:=hI
     refine v6 (wpS_get ?_)
     dsimp only
     by_cases cp:(pendingOf st2).size > 1
     ·rw[x4 cp,zCs (pendingOf st2) ((pendingOf st2).size - 2) (by omega)]
      dsimp only
      refine bD (λ_=>zAa ⟨rfl,q_,hc3⟩) λ_=>?_
      exact v6 (vY R q_ hc3 (by omega) λKp hS4 hc4 _=>zAa ⟨rfl,hS4,hc4⟩)
     ·rw[xL cp]
      exact zAa ⟨rfl,q_,hc3⟩
    ·obtain⟨rfl,q_,hc3⟩:=hI
     dsimp only
     refine v6 (zEe (hjp2 _ _ ⟨q_.kind,q_.failed,q_.perm⟩ ?_))
     exact Ko (CM _ _).symm hc3
  clear_value jp
  have last:∀st2 lo2,e_ κ a0 st2->Ch rk (pendingOf st2).toList 0 lo2 (arrOf st2).toList ((arrOf st2).toList.drop lo2)->lo2<=a0.size->x+1<=lo2->∃lo,((none,lo2):Option Unit × Nat)=(none,lo)/\e_ κ a0 st2/\Ch rk (pendingOf st2).toList 0 lo (arrOf st2).toList ((arrOf st2).toList.drop lo)/\lo<=a0.size/\x+1<=lo:=λst2 lo2 a b c d=>⟨lo2,rfl,a,b,c,d⟩
  refine bD (λcm=>?_) λcm=>?_
  ·have cm:m < mr:=cm
   refine v6 (wpS_lift (zCo ⟨rfl,?_⟩))
   refine v6 (NT R (hS1.set pm) (n:=min (a0.size - lo) mr) (by omega) m1 (by omega) u λys py ky uy=>?_)
   refine rJ _ last _ _ ys (py.trans pm) (λk hk=>(ky k hk).trans (kp k hk)) (by omega) (by omega) uy
  ·exact rJ _ last _ m xs pm kp m1 (by omega) u
 ·obtain⟨lo,rfl,hS1,hc,l1,l2⟩:=hI
  have:lo=a0.size:=by omega
  subst this
  refine⟨rfl,hS1,?_⟩
  rwa [List.drop_eq_nil_of_le (by simp [hS1.size])] at hc
 ·obtain⟨rfl,hS1,hc⟩:=hI
  dsimp only
  refine v6 (zDl (zB0 (I:=λx c st2=>c=(none,())/\e_ κ a0 st2/\Ch rk (pendingOf st2).toList 0 a0.size (arrOf st2).toList []/\((pendingOf st2).size<=1\/(pendingOf st2).size+x<=a0.size)) (Q:=λc st2=>c=(none,())/\e_ κ a0 st2/\Ch rk (pendingOf st2).toList 0 a0.size (arrOf st2).toList []/\(pendingOf st2).size<=1) (λx c st2 _ _ hI=>?_) (λc st2 hI=>?_) ⟨rfl,hS1,hc,.inr ?_⟩) λc st2 hI=>?_)
  ·obtain⟨rfl,fL,hc2,hb⟩:=hI
   refine v6 (wpS_get ?_)
   refine bD (λcp=>zAa ⟨rfl,fL,hc2,cp⟩) λcp=>?_
   refine v6 (vY R fL hc2 ?_ λKp hS4 hc4 e4=>zAa ⟨rfl,hS4,hc4,by omega⟩)
   have hle:∀(b:Bool) (i:Nat),(if b=true then i - 1 else i)<=i:=λb i=>by split <;> omega
   exact zDs (Nat.succ_le_succ (hle _ ((pendingOf st2).size - 2))) (by omega)
  ·obtain⟨rfl,fL,hc2,hb⟩:=hI
   refine⟨rfl,fL,hc2,?_⟩
   rw[zB8 (zAw _)] at hb
   omega
  ·obtain⟨W,w1,w2,w3,_⟩:=rN hc
   rw[u8] at w3
   omega
  ·obtain⟨rfl,fL,hc2,hb⟩:=hI
   refine zAa (h st2 fL ?_)
   rw[←u8] at hb
   generalize (pendingOf st2).toList=ps at hb hc2
   match ps,hb,hc2 with
   | [],_,hc=>rw[hc.2]; exact List.Pairwise.nil
   | [(s1,n,w)],_,⟨_,_,X,l',e,_,sX,_,e2⟩=>rw[e,e2,zBc]; exact sX
end
theorem rO {α β:Type}(f:α->β):∀{ps:List α} {l:List β},l.Perm (ps.map f)->∃qs:List α,qs.Perm ps/\l=qs.map f:=by
 intro ps
 induction ps with
 | nil=>
  intro l h
  exact⟨[],List.Perm.nil,h.eq_nil⟩
 | cons p ps ih=>
  intro l h
  have hm:f p∈l:=h.mem_iff.mpr (by simp)
  obtain⟨a,b,rfl⟩:=List.append_of_mem hm
  have h2:(a++b).Perm (ps.map f):=by
   have:=List.perm_middle.symm.trans h
   rw[zAo] at this
   exact (List.perm_cons _).mp this
  obtain⟨qs,hq,e⟩:=ih h2
  refine⟨qs.take a.length++p::qs.drop a.length,?_,?_⟩
  ·refine List.perm_middle.trans (List.Perm.cons p ?_)
   rw[zB3]
   exact hq
  ·rw[v4,zAo,map_take,map_drop,←e]
   simp
noncomputable def y9 (ks:zzB)(a:List Int):Nat:=ks.countP λk=>HT.lexLt k a
theorem vZ {ks:zzB}{a b:List Int}(hm:a∈ks)(h:HT.lexLt a b=true):y9 ks a < y9 ks b:=by
 unfold y9
 induction ks with
 | nil=>cases hm
 | cons k ks ih=>
  have mono:∀l:zzB,l.countP (λk=>HT.lexLt k a)<=l.countP λk=>HT.lexLt k b:=λl=>List.countP_mono_left λx _ hx=>lex_trans hx h
  rw[List.countP_cons,List.countP_cons]
  rcases wS.mp hm with e | hm
  ·rw[←e,lex_irrefl,h]
   have:=mono ks
   simp
   omega
  ·have:=ih hm
   by_cases c:HT.lexLt k a=true
   ·rw[c,lex_trans c h]; simp; omega
   ·have c':HT.lexLt k a=false:=by simpa using c
    rw[c',xL (by decide)]
    omega
theorem Dn {ks:zzB}{a b:List Int}(ha:a∈ks)(hb:b∈ks):decide (y9 ks a < y9 ks b)=HT.lexLt a b:=by
 by_cases e:a=b
 ·subst e
  rw[lex_irrefl]
  simp
 ·rcases rH _ _ e with h | h
  ·rw[h]
   exact zAm (vZ ha h)
  ·have h2:=vZ hb h
   cases c:HT.lexLt a b with
   | false=>exact zAv (by omega)
   | true=>
    have:=lex_trans c h
    rw[lex_irrefl] at this
    cases this
theorem LW {ks:zzB}{a b:List Int}(ha:a∈ks)(hb:b∈ks)(h:y9 ks a=y9 ks b):a=b:=by
 by_cases e:a=b
 ·exact e
 ·rcases rH _ _ e with q | q
  ·have:=vZ ha q; omega
  ·have:=vZ hb q; omega
section
variable {prog:Program}{w:World}{A:Around}{E:zzE}{s:Shared}
noncomputable def NY (ps:zzD):Value->List Int
 | .ref a=>((ps.find? λp=>p.1 == a).map (·.2)).getD []
 | _=>[]
theorem y_ {prog:Program}{w:World}:∀{x y:List Int} {vs:List Value},ItemsAre (intKind prog w) x vs->ItemsAre (intKind prog w) y vs->x=y
 | [],[],_,_,_=>rfl
 | [],_::_,_,.nil,h=>by cases h
 | _::_,[],_,h,.nil=>by cases h
 | a::x,b::y,_,.cons h1 t1,.cons h2 t2=>by
  obtain⟨t,rfl⟩:=pB h1
  obtain⟨u,e⟩:=pB h2
  cases e
  rw[y_ t1 t2]
theorem LX {h:Heap}{x y:List Int}{a:Addr}(hx:IsTupleKey (intKind prog w) h x a)(hy:IsTupleKey (intKind prog w) h y a):x=y:=by
 obtain⟨o,xs,n,ho,_,hd,hi⟩:=hx
 obtain⟨o',ys,n',ho',_,hd',hi'⟩:=hy
 rw[ho] at ho'
 cases ho'
 rw[hd] at hd'
 cases hd'
 exact y_ hi hi'
theorem pC {h:Heap}{ps:zzD}(tups:∀p∈ps,IsTupleKey (intKind prog w) h p.2 p.1){p:Addr × List Int}(hp:p∈ps):NY ps (rf p)=p.2:=by
 unfold NY rf
 dsimp only
 cases e:ps.find? λq=>q.1 == p.1 with
 | none=>
  have:=List.find?_eq_none.mp e p hp
  simp at this
 | some q=>
  have h1:=List.mem_of_find?_eq_some e
  have h2:q.1=p.1:=by simpa using List.find?_some e
  have h3:=tups q h1
  rw[h2] at h3
  exact LX h3 (tups p hp)
theorem NZ {ps:zzD}(tups:∀p∈ps,IsTupleKey (intKind prog w) s.heap p.2 p.1)(nd:(ps.map (·.2)).Nodup)(fl:Bool){a0:Array Keyed}(ha:a0.toList=ps.map λp=>(rf p,rf p)):Rk (model prog w) A E s (tuples' fl) a0 (λx=>y9 (ps.map (·.2)) (NY ps x.1)):=by
 have mem:∀x∈a0.toList,∃p∈ps,x=(rf p,rf p):=λx hx=>by
  rw[ha] at hx
  obtain⟨p,hp,e⟩:=x5.mp hx
  exact⟨p,hp,e.symm⟩
 constructor
 ·intro st x y Q hk hx hy hQ
  obtain⟨p,hp,rfl⟩:=mem x hx
  obtain⟨q,hq,rfl⟩:=mem y hy
  dsimp only at hQ
  rw[pC tups hp,pC tups hq,Dn (zA5 hp) (zA5 hq)] at hQ
  rw[lt'_eq]
  refine v6 (wpS_get ?_)
  rw[hk]
  exact v6 (wpS_lift (zEc (NQ (tups p hp) (tups q hq) ⟨rfl,zAa hQ⟩)))
 ·rw[ha,zAy,List.Nodup,zBk]
  rw[List.Nodup,zBk] at nd
  have:=zC8.mp nd
  refine this.imp λ{p q} ⟨hp,hq,ne⟩ e=>ne ?_
  dsimp only [Function.comp] at e
  rw[pC tups hp,pC tups hq] at e
  exact LW (zA5 hp) (zA5 hq) e
set_option maxHeartbeats 1000000 in
theorem qA {a:Addr}{n:Nat}{ps:zzD}{P:PySem.Fin->Shared->Prop}(ho:s.heap.get? a=some (seqObj "list" (ps.map rf).toArray n))(tups:∀p∈ps,IsTupleKey (intKind prog w) s.heap p.2 p.1)(hne:∀p∈ps,p.2≠[])(nd:(ps.map (·.2)).Nodup)(h64:ps.length < 100000)
  (h:∀(h':Heap) (ps':zzD) (c:Nat),(∀b o,b≠a->s.heap.get? b=some o->h'.get? b=some o)->h'.get? a=some (seqObj "list" (ps'.map rf).toArray c)->ps'.Perm ps->ps'.Pairwise (λp q=>HT.lexLt p.2 q.2=true)->P (.done (.ret .none)) { s with heap:=h' }) :
  wpAny (model prog w) A (Builtin.«list.sort» ⟨[.ref a],[]⟩) P E s:=by
 have ha:a < s.heap.objs.size:=kA ho
 obtain⟨e1,A6⟩:∃e1,(s.heap.update a (mapSeq λ_=>(#[]:Array Value))).get? a=some (seqObj "list" #[] e1):=⟨_,get?_update_seq ho λ_=>#[]⟩
 have hz:(ps.map rf).length=ps.length:=y3 _
 rw[list_sort_plain]
 refine yB (listItems_at ho rfl ?_)
 refine yB (listUpdate_at ho rfl ?_ (by rw[zAe,hz,zAk]; omega) (zAw _))
 refine yB (seqEpoch_at A6 rfl ?_)
 refine yB (wpAny_newTuple ?_ (by show (ps.map rf).length<=_; rw[hz,zAk]; omega))
 refine yB (wpAny_newList ?_ (zAw _))
 refine zBs ?_
 have keep:∀b o,b≠a->s.heap.get? b=some o->(((s.heap.update a (mapSeq λ_=>(#[]:Array Value))).push (seqObj "tuple" (ps.map rf).toArray 0)).push (seqObj "list" #[] 0)).get? b=some o:=λb o hb e=>y8 _ (y8 _ ((zBg _ _ (Ne.symm hb)).trans e))
 have ho2:(((s.heap.update a (mapSeq λ_=>(#[]:Array Value))).push (seqObj "tuple" (ps.map rf).toArray 0)).push (seqObj "list" #[] 0)).get? a=some (seqObj "list" #[] e1):=y8 _ (y8 _ A6)
 have fG:∀p∈ps,IsTupleKey (intKind prog w) (((s.heap.update a (mapSeq λ_=>(#[]:Array Value))).push (seqObj "tuple" (ps.map rf).toArray 0)).push (seqObj "list" #[] 0)) p.2 p.1:=λp hp=>g9 (tups p hp) λo e=>keep _ o (λz=>by
  obtain⟨o',_,_,ho',hc',_⟩:=tups p hp
  rw[z,ho] at ho'
  cases ho'
  exact absurd hc' (show ¬ (Value.type "list"=Value.type "tuple") by decide)) e
 show wpAny (model prog w) A _ P E { s with heap:=((s.heap.update a (mapSeq λ_=>(#[]:Array Value))).push (seqObj "tuple" (ps.map rf).toArray 0)).push (seqObj "list" #[] 0) }
 generalize ((s.heap.update a (mapSeq λ_=>(#[]:Array Value))).push (seqObj "tuple" (ps.map rf).toArray 0)).push (seqObj "list" #[] 0)=h3 at *
 dsimp only
 have fin:∀(out:zzD),out.Perm ps->out.Pairwise (λp q=>HT.lexLt p.2 q.2=true)->P (.done (.ret .none)) { s with heap:=h3.update a (mapSeq λ_=>(out.map rf).toArray) }:=λout pm pw=>by
  obtain⟨c2,hc2⟩:∃c2,(h3.update a (mapSeq λ_=>(out.map rf).toArray)).get? a=some (seqObj "list" (out.map rf).toArray c2):=⟨_,get?_update_seq ho2 λ_=>(out.map rf).toArray⟩
  exact h _ out c2 (λb o hb e=>(zBg _ _ (Ne.symm hb)).trans (keep b o hb e)) hc2 pm pw
 have az:((ps.map rf).toArray.zip (ps.map rf).toArray).toList=ps.map λp=>(rf p,rf p):=by
  simp only [Array.toList_zip,List.zip_map,zAy]
  clear h64 hz ho h fin A6 keep ho2 fG tups hne nd
  induction ps with
  | nil=>rfl
  | cons p ps ih=>simp [ih]
 by_cases h2:(ps.map rf).toArray.size < 2
 ·rw[x4 h2,x4 h2]
  refine yB (y6 ?_)
  rw[StateT.run_pure]
  refine yB (y6 ?_)
  dsimp only
  have arr:(arrOf (SortSt.mk' general' ((ps.map rf).toArray.zip (ps.map rf).toArray) #[] 7 none)).map (·.2)=(ps.map rf).toArray:=by
   show ((ps.map rf).toArray.zip (ps.map rf).toArray).map (·.2)=_
   apply Array.toList_inj.mp
   rw[Array.toList_map,az,zAy]
   rfl
  rw[arr]
  refine yB (seqEpoch_at ho2 rfl ?_)
  refine yB (listUpdate_at ho2 rfl ?_ (zAw _) (by show (ps.map rf).toArray.size<=_; omega))
  simp only [bne_self_eq_false,zAi,zBa]
  refine y6 (fin ps (List.Perm.refl _) ?_)
  have hl:ps.length < 2:=by simpa using h2
  match ps,hl with
  | [],_=>exact List.Pairwise.nil
  | [p],_=>exact List.pairwise_singleton _ _
 ·rw[xL h2,xL h2]
  have hl:2<=ps.length:=by simpa using h2
  obtain⟨fs,ft,fl,fi⟩:=A0 (prog:=prog) (w:=w) (s:={ s with heap:=h3 }) ps fG hne
  refine yB (kat_kind (T:=.type "int") ft (by omega) (λv hv=>?_) (by decide) ?_)
  ·obtain⟨k,t,rfl⟩:=fi v hv
   exact Looks.now
  have R:=NZ (A:=A) (E:=E) (s:={ s with heap:=h3 }) fG nd ((Value.type "int") != Value.type "tuple") az
  have W:=LV (st:=SortSt.mk' (tuples' ((Value.type "int") != Value.type "tuple")) ((ps.map rf).toArray.zip (ps.map rf).toArray) #[] 7 none) R ⟨rfl,rfl,Array.Perm.refl _⟩ (Q:=λ_ st'=>failedOf st'=none/\∃qs:zzD,qs.Perm ps/\(arrOf st').toList=qs.map (λp=>(rf p,rf p))/\qs.Pairwise (λp q=>HT.lexLt p.2 q.2=true)) rfl λst' hS hs=>by
   obtain⟨qs,hq,e⟩:=rO (λp:Addr × List Int=>(rf p,rf p)) (az ▸ hS.perm.toList)
   refine⟨hS.failed,qs,hq,e,?_⟩
   rw[e] at hs
   unfold m7 at hs
   rw[zBk] at hs
   refine (zC8.mp hs).imp λ{p q} ⟨hp,hq',lt⟩=>?_
   have m1:=hq.mem_iff.mp hp
   have m2:=hq.mem_iff.mp hq'
   dsimp only at lt
   rw[pC fG m1,pC fG m2] at lt
   rw[←Dn (zA5 m1) (zA5 m2)]
   exact zAm lt
  unfold wpS at W
  refine yB (zCw W ?_ λ_ _ e=>e)
  rintro⟨⟨⟩,st'⟩ s' ⟨rfl,hf,qs,hq,har,pw⟩
  dsimp only at hf har ⊢
  have hout:(arrOf st').map (·.2)=(qs.map rf).toArray:=by
   apply Array.toList_inj.mp
   rw[Array.toList_map,har,zAy]
   rfl
  rw[hout]
  refine yB (seqEpoch_at (s:={ s with heap:=h3 }) ho2 rfl ?_)
  refine yB (listUpdate_at (s:={ s with heap:=h3 }) ho2 rfl ?_ (zAw _) (by show (qs.map rf).toArray.size<=_; simp [hq.length_eq,zAk]; omega))
  rw[hf]
  simp only [bne_self_eq_false,zAi,zBa]
  exact y6 (fin qs hq pw)
end
section
variable {prog:Program}{w:World}{A:Around}{E:zzE}{s:Shared}
theorem eO.calm {K:Type}[DecidableEq K]{knd:KeyKind prog w K}{h:Heap}{S:Addr}{ps:List (Addr × List K)}(x:eO knd h S ps):∃o ep t,h.get? S=some o/\Calm w o (ps.map (ent knd)).toArray ep t/\(ps.map (·.2)).Nodup:=by
 obtain⟨o,ep,t,ho,hex,hd,H,hp,hm,hk⟩:=x
 refine⟨o,ep,t,ho,⟨hex,hd,?_,H.plain.rise,hp.1,hp.2⟩,hk⟩
 have h1:=H.size
 have h2:=H.room
 simp only [SetTable.fits,SetTable.fill,H.plain.CZ,zBy,zDz,zDg]
 simp only [u8,y3] at h1 h2
 simp
 omega
set_option maxHeartbeats 1000000 in
theorem v5 {S:Addr}{ps:zzD}{Q:zzE}(hh:A.handled=none)(hS:eO (intKind prog w) s.heap S ps)(tups:∀p∈ps,IsTupleKey (intKind prog w) s.heap p.2 p.1)(hne:∀p∈ps,p.2≠[])(h64:ps.length < 100000)
  (h:∀(h':Heap) (tk:Nat) (l:Addr) (ps':zzD) (c:Nat),(∀b o,s.heap.get? b=some o->h'.get? b=some o)->s.heap.objs.size<=l->h'.get? l=some (seqObj "list" (ps'.map rf).toArray c)->ps'.Perm ps->ps'.Pairwise (λp q=>HT.lexLt p.2 q.2=true)->Q (.ref l) { s with heap:=h',toks:=tk }) :
  wpAny (model prog w) A (call (.builtin "sorted") [.ref S]) Q E s:=by
 obtain⟨o,ep,t,ho,C,nd⟩:=hS.calm
 refine Calls.call_function_entry kind_sorted plain_sorted entry_sorted (args_sorted1 _) ?_
 unfold Builtin.«sorted»
 refine yB (m:=checkCount "sorted" 1 1 _) (y6 ?_)
 refine yB (CK (by simp [hh]) ho C (by rw[zAk]; simp; omega) λh1 tk vs keep1 hle ev=>?_)
 obtain⟨qs,hq,eq⟩:=rO (ent (intKind prog w)) (by simpa using yJ w S ep (ps.map (ent (intKind prog w))).toArray)
 have UB:vs=qs.map rf:=by
  rw[ev,eq,zAy]
  rfl
 subst UB
 have ql:qs.length=ps.length:=hq.length_eq
 refine yB (wpAny_newList ?_ (by rw[y3,zAk]; omega))
 have hL:(h1.push (seqObj "list" (qs.map rf).toArray 0)).get? h1.objs.size=some (seqObj "list" (qs.map rf).toArray 0):=wE _ rfl
 have keep2:∀b o,s.heap.get? b=some o->(h1.push (seqObj "list" (qs.map rf).toArray 0)).get? b=some o:=λb o e=>y8 _ (keep1 b o e)
 have new1:s.heap.get? h1.objs.size=none:=by
  cases e:s.heap.get? h1.objs.size with
  | none=>rfl
  | some o'=>exact absurd (kA (keep1 _ _ e)) (zB6 _)
 show wpAny _ _ _ _ _ { s with heap:=h1.push (seqObj "list" (qs.map rf).toArray 0),toks:=tk }
 have EM:∀p∈qs,IsTupleKey (intKind prog w) (h1.push (seqObj "list" (qs.map rf).toArray 0)) p.2 p.1:=λp hp=>g9 (tups p (hq.mem_iff.mp hp)) λo e=>keep2 _ o e
 generalize h1.push (seqObj "list" (qs.map rf).toArray 0)=h2 at *
 generalize h1.objs.size=l at *
 refine yB (zBs (zBe slot_list_sort ⟨_,hL,rfl⟩ entry_list_sort ?_ (args_list_sort _)))
 refine qA (s:={ s with heap:=h2,toks:=tk }) hL EM (λp hp=>hne p (hq.mem_iff.mp hp)) ((hq.map _).nodup_iff.mpr nd) (by omega) λh3 ps' c kp hl3 pm pw=>?_
 refine⟨_,rfl,y6 ⟨_,rfl,h h3 tk l ps' c (λb o e=>kp b o (λz=>?_) (keep2 b o e)) hle hl3 (pm.trans hq) pw⟩⟩
 rw[z] at e
 rw[new1] at e
 cases e
end
end TB
namespace L2
open PySem PySem.Spec PyProof.Rows
noncomputable def dj (cells:List (Str × Addr)):List (Str × NameKind)->List (Str × Addr)->List (Str × Addr)
 | [],acc=>acc
 | (n,k)::r,acc=>if (k == NameKind.free)=true then dj cells r ((n,(cells.lookup n).getD 0)::acc) else dj cells r acc
theorem jQ {cells:List (Str × Addr)}{x:Str}{c:Addr}:∀{names:List (Str × NameKind)} {acc:List (Str × Addr)},(x,c)∈dj cells names acc->(x,c)∈acc\/((x,NameKind.free)∈names/\c=(cells.lookup x).getD 0)
 | [],_,h=>.inl h
 | (n,k)::r,acc,h=>by
  unfold dj at h
  by_cases hk:(k == NameKind.free)=true
  ·rw[x4 hk] at h
   have ek:k=NameKind.free:=by simpa using hk
   subst ek
   rcases jQ h with q | ⟨q1,q2⟩
   ·rcases wS.mp q with e | q
    ·cases e; exact .inr ⟨zAs,rfl⟩
    ·exact .inl q
   ·exact .inr ⟨zAr _ q1,q2⟩
  ·rw[xL hk] at h
   rcases jQ h with q | ⟨q1,q2⟩
   ·exact .inl q
   ·exact .inr ⟨zAr _ q1,q2⟩
theorem mh {cells:List (Str × Addr)}{x:Str}:∀{names:List (Str × NameKind)} {acc:List (Str × Addr)},((x,NameKind.free)∈names\/(acc.lookup x).isSome=true)->((dj cells names acc).lookup x).isSome=true
 | [],_,h=>by
  rcases h with h | h
  ·exact absurd h (by simp)
  ·exact h
 | (n,k)::r,acc,h=>by
  unfold dj
  by_cases hk:(k == NameKind.free)=true
  ·rw[x4 hk]
   refine mh ?_
   rcases h with h | h
   ·rcases wS.mp h with e | h
    ·cases e
     exact .inr (by rw[zC3,beq_self_eq_true]; rfl)
    ·exact .inl h
   ·refine .inr ?_
    rw[zC3]
    cases hb:x == n with
    | true=>rfl
    | false=>exact h
  ·rw[xL hk]
   refine mh ?_
   rcases h with h | h
   ·rcases wS.mp h with e | h
    ·cases e; exact absurd rfl hk
    ·exact .inl h
   ·exact .inr h
theorem qf {env:Env}(f:Str × NameKind->List (Str × Addr)->Sem (ForInStep (List (Str × Addr))))
  (hf:∀n k cs,f (n,k) cs=if (k == NameKind.free)=true then (do let a ←cellOf env n; pure (ForInStep.yield ((n,a)::cs))) else pure (ForInStep.yield cs)) :
  ∀(names:List (Str × NameKind)) (acc:List (Str × Addr)),(∀x∈names,x.2=NameKind.free->∃c,env.cells.lookup x.1=some c)->forIn names acc f=(pure (dj env.cells names acc):Sem (List (Str × Addr)))
 | [],acc,_=>by rw[forIn_nil]; rfl
 | (n,k)::r,acc,h=>by
  rw[zEf,hf]
  unfold dj
  have hr:∀x∈r,x.2=NameKind.free->∃c,env.cells.lookup x.1=some c:=λx hx=>h x (zAr _ hx)
  by_cases hk:(k == NameKind.free)=true
  ·rw[x4 hk,x4 hk]
   have ek:k=NameKind.free:=by simpa using hk
   obtain⟨c,hc⟩:=h (n,k) zAs ek
   have hc':env.cells.lookup n=some c:=hc
   have e1:cellOf env n=pure c:=by unfold cellOf; rw[hc']
   rw[e1,hc']
   exact qf f hf r _ hr
  ·rw[xL hk,xL hk]
   exact qf f hf r _ hr
theorem v7 {env:Env}{scope:Scope}(h:∀x∈scope.names,x.2=NameKind.free->∃c,env.cells.lookup x.1=some c):closureFor scope env=pure (dj env.cells scope.names []):=by
 unfold closureFor
 dsimp only
 rw[qf (env:=env) _ ?_ scope.names [] h]
 ·rfl
 ·intro n k cs
  by_cases hk:(k == NameKind.free)=true
  ·simp only [hk,zCt]
  ·simp only [hk,zBa]
theorem lJ {x:Str}{c:Addr}:∀{names:List (Str × NameKind)} {n:Nat} {acc:List (Str × Addr)},(x,c)∈cellsFrom n names acc->(x,c)∈acc\/(n<=c/\(x,NameKind.cell)∈names)
 | [],_,_,h=>.inl h
 | (y,k)::r,n,acc,h=>by
  unfold cellsFrom at h
  by_cases hk:(k == NameKind.cell)=true
  ·rw[x4 hk] at h
   have ek:k=NameKind.cell:=by simpa using hk
   subst ek
   rcases lJ h with q | ⟨q1,q2⟩
   ·rcases wS.mp q with e | q
    ·cases e; exact .inr ⟨x3 _,zAs⟩
    ·exact .inl q
   ·exact .inr ⟨zDx q1,zAr _ q2⟩
  ·rw[xL hk] at h
   rcases lJ h with q | ⟨q1,q2⟩
   ·exact .inl q
   ·exact .inr ⟨q1,zAr _ q2⟩
theorem lK {x y:Str}{c:Addr}:∀{names:List (Str × NameKind)} {n:Nat} {acc:List (Str × Addr)},(∀p∈acc,p.2 < n)->(x,c)∈cellsFrom n names acc->(y,c)∈cellsFrom n names acc->((x,c)∈acc/\(y,c)∈acc)\/x=y
 | [],_,_,_,h,h'=>.inl ⟨h,h'⟩
 | (z,k)::r,n,acc,hl,h,h'=>by
  unfold cellsFrom at h h'
  by_cases hk:(k == NameKind.cell)=true
  ·rw[x4 hk] at h h'
   have hl':∀p∈(z,n)::acc,p.2 < n+1:=λp hp=>by
    rcases wS.mp hp with e | hp
    ·subst e; exact Nat.lt_succ_self _
    ·exact zDh (hl p hp)
   rcases lK hl' h h' with ⟨a,b⟩ | e
   ·rcases wS.mp a with e | a
    ·obtain⟨e1,e2⟩:=vT e
     rcases wS.mp b with e' | b
     ·exact .inr (e1.trans (vT e').1.symm)
     ·rw[e2] at b
      exact absurd (show n < n from hl _ b) (zB6 n)
    ·rcases wS.mp b with e' | b
     ·rw[(vT e').2] at a
      exact absurd (show n < n from hl _ a) (zB6 n)
     ·exact .inl ⟨a,b⟩
   ·exact .inr e
  ·rw[xL hk] at h h'
   exact lK hl h h'
theorem ko {x:Str}{c:Addr}:∀{names:List (Str × NameKind)} {h:Heap} {acc:List (Str × Addr)},(x,c)∈cellsFrom h.objs.size names acc->(x,c)∈acc\/(pushCells h names).IsCell c none
 | [],_,_,q=>.inl q
 | (y,k)::r,h,acc,q=>by
  unfold cellsFrom at q
  unfold pushCells
  by_cases hk:(k == NameKind.cell)=true
  ·rw[x4 hk] at q ⊢
   have q':(x,c)∈cellsFrom (h.push { cls:=.type "cell",data:=.cell none }).objs.size r ((y,h.objs.size)::acc):=by rw[zC6]; exact q
   rcases ko q' with z | z
   ·rcases wS.mp z with e | z
    ·cases e
     exact .inr ⟨_,pushCells_keeps r _ _ _ (wE _ rfl),rfl⟩
    ·exact .inl z
   ·exact .inr z
  ·rw[xL hk] at q ⊢
   exact ko q
theorem CO {M:Model}{A:Around}{E:zzE}{s:Shared}{scope:Scope}{globals:Addr}{cl:List (Str × Addr)}{qual:Str}{env:Env}{Q:Env->Shared->Prop}
  (h:Q { scope:=scope,locals:=s.heap.objs.size,globals:=globals,cells:=cellsFrom (s.heap.objs.size+1) scope.names cl,qual:=qual,func:=none,code:=env.code,frame:=env.frame,builtins:=env.builtins }
   { s with heap:=pushCells (s.heap.push { cls:=.type "dict",data:=.dict #[] }) scope.names }) :
  wpAny M A (newFunctionEnv scope globals cl [] qual none .none (some env)) Q E s:=by
 unfold newFunctionEnv
 refine yB (wpAny_alloc ?_)
 refine yB (wpAny_layCells _ ?_ scope.names cl _ _ ?_)
 ·intro name kind cells
  by_cases hk:(kind == NameKind.cell)=true
  ·simp only [hk,zCt]
  ·simp only [hk,zBa]
 ·have e:(s.heap.push { cls:=.type "dict",data:=.dict #[] }).objs.size=s.heap.objs.size+1:=zC6 ..
  rw[←e] at h
  exact y6 h
theorem iG {env:Env}{x:Str}{k':NameKind}:∀{names:List (Str × NameKind)},(names.map λ(n,k)=>if (k == NameKind.free&&env.scope.kind == .function&&env.kindOf n == some .cell) then (n,NameKind.cell) else (n,k)).lookup x=some k'->
  ∃k,names.lookup x=some k/\(k'=k\/(k=.free/\k'=.cell))
 | [],h=>by simp at h
 | (n,k)::r,h=>by
  by_cases hc:(k == NameKind.free&&env.scope.kind == .function&&env.kindOf n == some .cell)=true
  ·simp only [zAo,hc,zCt,zC3] at h ⊢
   cases hx:x == n with
   | true=>
    rw[hx] at h
    have ek:k=NameKind.free:=by
     have:=hc
     simp only [zBy] at this
     simpa using this.1.1
    exact⟨k,rfl,.inr ⟨ek,(zAh h).symm⟩⟩
   | false=>
    rw[hx] at h
    exact iG h
  ·have hc':(k == NameKind.free&&env.scope.kind == .function&&env.kindOf n == some .cell)=false:=by simpa using hc
   simp only [zAo,hc',zAi,zBa,zC3] at h ⊢
   cases hx:x == n with
   | true=>rw[hx] at h; exact⟨k,rfl,.inl (zAh h).symm⟩
   | false=>
    rw[hx] at h
    exact iG h
theorem iY {env:Env}{x:Str}{k:NameKind}:∀{names:List (Str × NameKind)},names.lookup x=some k->
  ∃k',(names.map λ(n,k)=>if (k == NameKind.free&&env.scope.kind == .function&&env.kindOf n == some .cell) then (n,NameKind.cell) else (n,k)).lookup x=some k'/\(k'=k\/(k=.free/\k'=.cell))
 | [],h=>by simp at h
 | (n,k₀)::r,h=>by
  by_cases hc:(k₀ == NameKind.free&&env.scope.kind == .function&&env.kindOf n == some .cell)=true
  ·simp only [zAo,hc,zCt,zC3] at h ⊢
   cases hx:x == n with
   | true=>
    rw[hx] at h
    have ek:k₀=NameKind.free:=by
     have:=hc
     simp only [zBy] at this
     simpa using this.1.1
    have e2:k₀=k:=zAh h
    exact⟨_,rfl,.inr ⟨e2 ▸ ek,rfl⟩⟩
   | false=>
    rw[hx] at h
    exact iY h
  ·have hc':(k₀ == NameKind.free&&env.scope.kind == .function&&env.kindOf n == some .cell)=false:=by simpa using hc
   simp only [zAo,hc',zAi,zBa,zC3] at h ⊢
   cases hx:x == n with
   | true=>rw[hx] at h; exact⟨k₀,rfl,.inl (zAh h)⟩
   | false=>
    rw[hx] at h
    exact iY h
noncomputable def compEnv (sc:Scope)(C:Addr)(env:Env):Env:=
 { scope:=relabel sc env,locals:=C,globals:=env.globals,cells:=cellsFrom (C+1) sc.names (dj env.cells sc.names []),qual:=env.qual,func:=none,code:=env.code,frame:=env.frame,builtins:=env.builtins }
noncomputable def dI (X:Cx)(N':List Str)(sc:Scope)(C:Addr)(s₀:Shared)(H₀:Hp)(ex:List Addr):Cx where
 prog:=X.prog
 w:=X.w
 K:=X.K
 mg:=X.mg
 base:=X.base
 A:=X.A
 N:=N'
 s₀:=s₀
 H₀:=H₀
 env:=compEnv sc C X.env
 outer:=X.stack
 stack:=X.stack
 ex:=ex
 fn:=λx=>decide (sc.names.lookup x=some .cell)
 calm:=X.calm
 pn:=[]
 xe:=λ_ _=>False
noncomputable def cN (ix:List (Option Nat))(σ:St):St:=ix.map λo=>o.bind λj=>(σ[j]?).join
structure fU (X:Cx)(N':List Str)(ix:List (Option Nat))(sc:Scope):Prop where
 kind:sc.kind=.function
 nd:N'.Nodup
 uniq:(sc.names.map (·.1)).Nodup
 len:ix.length=N'.length
 free:∀x∈sc.names,x.2=.free->X.env.kindOf x.1=some .cell\/X.env.kindOf x.1=some .free
 at_:∀(i j:Nat),ix[i]?=some (some j)->∃x,N'[i]?=some x/\X.N[j]?=some x/\sc.names.lookup x=some .free
theorem h_ {α:Type}{x:Str}{a:α}:∀{l:List (Str × α)},(l.map (·.1)).Nodup->(x,a)∈l->l.lookup x=some a
 | (k,v)::r,nd,h=>by
  rw[zAo,zCd] at nd
  rw[zC3]
  rcases wS.mp h with e | h
  ·cases e; rw[beq_self_eq_true]
  ·have:(x == k)=false:=by
    cases q:x == k with
    | false=>rfl
    | true=>
     have e:x=k:=by simpa using q
     exact absurd (x5.mpr ⟨_,h,e⟩) nd.1
   rw[this]
   exact h_ nd.2 h
section
variable {X:Cx}{pins:zzC}{σ:St}{H:Hp}{s:Shared}{N':List Str}{ix:List (Option Nat)}{sc:Scope}{ex:List Addr}
theorem jA (S:fU X N' ix sc){C:Addr}{x:Str}{c:Addr}(h:(compEnv sc C X.env).cells.lookup x=some c)(ok:X.Ok) :
  (X.env.cells.lookup x=some c/\sc.names.lookup x=some .free)\/(C+1<=c/\sc.names.lookup x=some .cell):=by
 rcases lJ (mem_of_lookup h) with q | ⟨q1,q2⟩
 ·rcases jQ q with q | ⟨q1,q2⟩
  ·exact absurd q (by simp)
  ·obtain⟨c',hc⟩:=ok.has x (S.free _ q1 rfl)
   rw[hc] at q2
   exact .inl ⟨by rw[hc,q2]; rfl,h_ S.uniq q1⟩
 ·exact .inr ⟨q1,h_ S.uniq q2⟩
theorem za (S:fU X N' ix sc)(I:Inv X pins σ H s)(C:Addr){i:Nat}{x:Str}{v:V}(h1:N'[i]?=some x)(h2:(cN ix σ)[i]?=some (some v)) :
  ∃u c,RelV v u/\((compEnv sc C X.env).kindOf x=some .cell\/(compEnv sc C X.env).kindOf x=some .free)/\(compEnv sc C X.env).cells.lookup x=some c/\X.env.cells.lookup x=some c/\s.heap.IsCell c (some u):=by
 have h2':(ix.map λo=>o.bind λj=>(σ[j]?).join)[i]?=some (some v):=h2
 rw[wP] at h2'
 cases e:ix[i]? with
 | none=>rw[e] at h2'; cases h2'
 | some o=>
  rw[e] at h2'
  cases o with
  | none=>cases h2'
  | some j=>
   have h4:(σ[j]?).join=some v:=zAh h2'
   have h5:σ[j]?=some (some v):=by
    cases q:σ[j]? with
    | none=>rw[q] at h4; cases h4
    | some o=>rw[q] at h4; exact zA3 some h4
   obtain⟨x',n1,n2,n3⟩:=S.at_ i j e
   rw[n1] at h1
   cases h1
   have kx:=S.free _ (mem_of_lookup n3) rfl
   obtain⟨m,hn,hl⟩:=I.loc
   have vis:J9 X.env.scope x:=by
    rcases kx with k | k
    ·exact .inr (.inl k)
    ·exact .inr (.inr k)
   obtain⟨u,r,l⟩:=hl j x v n2 h5 vis
   rcases l with ⟨k,_⟩ | ⟨k,c,hc,z⟩
   ·rcases kx with k' | k' <;> (rw[k] at k'; cases k')
   ·obtain⟨k',q,z'⟩:=iY (env:=X.env) (names:=sc.names) n3
    have:((cellsFrom (C+1) sc.names (dj X.env.cells sc.names [])).lookup x).isSome=true:=zDp _ _ _ (.inr (mh (.inl (mem_of_lookup n3))))
    obtain⟨c',hc'⟩:=Option.isSome_iff_exists.mp this
    have ec:c=c':=by
     rcases jA S (C:=C) hc' I.ok with ⟨q1,_⟩ | ⟨_,q2⟩
     ·rw[hc] at q1; exact zAh q1
     ·rw[n3] at q2; cases q2
    subst ec
    refine⟨u,c,r,?_,hc',hc,z⟩
    show (relabel sc X.env).names.lookup x=some .cell\/(relabel sc X.env).names.lookup x=some .free
    rcases z' with z' | ⟨_,z'⟩
    ·exact .inr (z' ▸ q)
    ·exact .inl (z' ▸ q)
theorem EN (S:fU X N' ix sc)(I:Inv X pins σ H s)(hf:∀b∈ex,iX X pins H b)(he:∀b∈ex,∃o,s.heap.get? b=some o) :
  Inv (dI X N' sc s.heap.objs.size s H ex) [] (cN ix σ) H { s with heap:=pushCells (s.heap.push { cls:=.type "dict",data:=.dict #[] }) sc.names }:=by
 have keep:∀b o,s.heap.get? b=some o->(pushCells (s.heap.push { cls:=.type "dict",data:=.dict #[] }) sc.names).get? b=some o:=λb o e=>pushCells_keeps _ _ _ _ (y8 _ e)
 have ltC:∀x c,X.env.cells.lookup x=some c->c < s.heap.objs.size:=λx c e=>by obtain⟨v,q⟩:=I.cell x c e; exact q.lt
 have ltE:∀b∈ex,b < s.heap.objs.size:=λb hb=>by obtain⟨o,e⟩:=he b hb; exact kA e
 have ok:(dI X N' sc s.heap.objs.size s H ex).Ok:=by
  refine⟨I.ok.mod,S.kind,I.ok.glob,I.ok.blt,x3 _,λx y c h1 h2=>?_,λx hx=>?_,λx c hx hc=>?_,I.ok.hd,I.ok.frames,.inl rfl,λb hb=>⟨zAn (ltE b hb),λx c h z=>?_⟩,I.bs,zAu I.ok.yM I.sz,λb o e hb=>?_,λb hb hm=>?_,I.stack,I.C8⟩
  ·have l:∀p∈dj X.env.cells sc.names [],p.2 < s.heap.objs.size+1:=λp hp=>by
    obtain⟨px,pc⟩:=p
    rcases jQ hp with q | ⟨q1,q2⟩
    ·exact absurd q (by simp)
    ·obtain⟨c',hc⟩:=I.ok.has px (S.free _ q1 rfl)
     rw[hc] at q2
     have:=ltC _ _ hc
     show pc < _
     rw[q2]
     exact zDh this
   rcases lK l (mem_of_lookup h1) (mem_of_lookup h2) with ⟨a,b⟩ | e
   ·rcases jA S h1 I.ok with ⟨q,_⟩ | ⟨q,_⟩
    ·rcases jA S h2 I.ok with ⟨q',_⟩ | ⟨q',_⟩
     ·exact I.ok.inj _ _ _ q q'
     ·exact absurd (zAx (ltC _ _ q) (zDx q')) (zB6 _)
    ·exact absurd (l _ a) (Nat.not_lt.mpr q)
   ·exact e
  ·have hx':(relabel sc X.env).names.lookup x=some .cell\/(relabel sc X.env).names.lookup x=some .free:=hx
   have:sc.names.lookup x=some .cell\/sc.names.lookup x=some .free:=by
    rcases hx' with q | q
    ·obtain⟨k,e,z⟩:=iG (names:=sc.names) q
     rcases z with z | ⟨z,_⟩
     ·exact .inl (z ▸ e)
     ·exact .inr (z ▸ e)
    ·obtain⟨k,e,z⟩:=iG (names:=sc.names) q
     rcases z with z | ⟨_,z⟩
     ·exact .inr (z ▸ e)
     ·cases z
   refine Option.isSome_iff_exists.mp ?_
   show ((cellsFrom (s.heap.objs.size+1) sc.names (dj X.env.cells sc.names [])).lookup x).isSome=true
   rcases this with q | q
   ·exact zDp _ _ _ (.inl q)
   ·exact zDp _ _ _ (.inr (mh (.inl (mem_of_lookup q))))
  ·have hx':sc.names.lookup x=some .cell:=zAt hx
   rcases jA S hc I.ok with ⟨_,q⟩ | ⟨q,_⟩
   ·rw[hx'] at q; cases q
   ·exact zDx q
  ·rcases jA S h I.ok with ⟨q,_⟩ | ⟨q,_⟩
   ·exact (hf b hb).2.2.2.2.1 x c q z
   ·exact absurd (zAx (ltE b hb) (zDx (z ▸ q))) (zB6 _)
  ·rcases (hf b hb).2.2.2.1 with z | z
   ·exact I.ok.AA b o e z
   ·exact absurd (zAx (kA e) (zAu I.ok.yM z)) (zB6 _)
  ·rcases wS.mp (I.AE b hm) with z | z
   ·exact (hf b hb).2.1 z
   ·exact (hf b hb).2.2.1 z
 refine⟨ok,rfl,I.bare,Un.kept keep,⟨λ_=>none,?_,λi x v h1 h2 h3=>?_⟩,λx c h=>?_,I.hok.fresh (x3 _),λx c h=>?_,λp hp=>absurd (show p∈([]:zzC) from hp) (by simp),I.hok.kept keep,?_⟩
 ·exact (Heap.Ns.new s.heap (.type "dict")).keeps λb o e=>pushCells_keeps _ _ _ _ e
 ·obtain⟨u,c,r,k,hc,_,z⟩:=za S I s.heap.objs.size h1 h2
  exact⟨u,r,.inr ⟨k,c,hc,z.keeps keep⟩⟩
 ·rcases jA S h I.ok with ⟨q,_⟩ | ⟨q,_⟩
  ·obtain⟨v,z⟩:=I.cell x c q
   exact⟨v,z.keeps keep⟩
  ·have h':(x,c)∈cellsFrom (s.heap.push { cls:=.type "dict",data:=.dict #[] }).objs.size sc.names (dj X.env.cells sc.names []):=by rw[zC6]; exact mem_of_lookup h
   rcases ko h' with z | z
   ·rcases jQ z with z | ⟨z1,z2⟩
    ·exact absurd z (by simp)
    ·obtain⟨c',hc⟩:=I.ok.has x (S.free _ z1 rfl)
     rw[hc] at z2
     have:=ltC _ _ hc
     rw[show c=c' from z2] at q
     exact absurd (zAx this (zDx q)) (zB6 _)
   ·exact⟨none,z⟩
 ·rcases jA S h I.ok with ⟨q,_⟩ | ⟨q,_⟩
  ·exact I.ji x c q
  ·exact I.hok.fresh (zDx q)
 ·show (ix.map _).length=N'.length
  rw[y3]; exact S.len
theorem comp_back {H':Hp}{s':Shared}{σ':St}{ps:zzC}(S:fU X N' ix sc)(I:Inv X pins σ H s)(hf:∀b∈ex,iX X pins H b)
  (J:Inv (dI X N' sc s.heap.objs.size s H ex) ps σ' H' s'):Inv (dI X N' sc s.heap.objs.size s H ex) [] (cN ix σ) H' s':=by
 obtain⟨m,hn,_⟩:=J.loc
 refine⟨J.ok,J.os,J.bare,J.base,⟨m,hn,λi x v h1 h2 h3=>?_⟩,J.cell,J.free,J.ji,λp hp=>absurd (show p∈([]:zzC) from hp) (by simp),J.hok,?_⟩
 ·obtain⟨u,c,r,k,hc,hx,⟨o,ho,hd⟩⟩:=za S I s.heap.objs.size h1 h2
  have u1:Un (frs X.stack) ex H H' s.heap s'.heap:=J.base
  obtain⟨sl,q⟩:=u1.any ho (I.ji x c hx) λz=>(hf c z).2.2.2.2.1 x c hx rfl
  exact⟨u,r,.inr ⟨k,c,hc,_,q,hd⟩⟩
 ·show (ix.map _).length=N'.length
  rw[y3]; exact S.len
theorem v8 {H':Hp}{s':Shared}{h':Heap}{σ':St}{ps:zzC}(I:Inv X pins σ H s)(hf:∀b∈ex,iX X pins H b)
  (J:Inv (dI X N' sc s.heap.objs.size s H ex) ps σ' H' s') (hs:Heap.SameBut s.heap.objs.size s'.heap h'):Inv X pins σ H' { s' with heap:=h' }:=by
 have u:Un (frs X.stack) ex H H' s.heap s'.heap:=J.base
 have ne:∀b o,s.heap.get? b=some o->b≠s.heap.objs.size:=λb o e=>zAn (kA e)
 have g:∀b,b≠s.heap.objs.size->h'.get? b=s'.heap.get? b:=λb hb=>hs.2 b hb
 have hC:H' s.heap.objs.size=none:=J.free
 refine I.QD (s':={ s' with heap:=h' }) (ch:=ex) J.os ⟨λb o e n hb hx=>?_,λb o e n hb hx=>?_,u.free,λb o e hx=>?_,u.tups,u.oU,u.p9⟩ (λb o e=>?_) J.bare λb hb=>?_
 ·exact (g b (ne b o e)).trans (u.keep b o e n hb hx)
 ·obtain⟨sl,q⟩:=u.slot b o e n hb hx
  exact⟨sl,(g b (ne b o e)).trans q⟩
 ·obtain⟨o',q⟩:=u.there b o e hx
  exact⟨o',(g b (ne b o e)).trans q⟩
 ·refine (J.hok b o e).stay (λc v hc q=>(g c ?_).trans q) (λ_ q=>q) λ_ _ q=>q
  rintro rfl
  rcases hc with z | z
  ·rw[←z,hC] at e; cases e
  ·rw[hC] at z; cases z
 ·obtain⟨f0,f1,f2,f3,f4,f5⟩:=hf b hb
  exact⟨f3,f1,f4,f5⟩
end
noncomputable def PF (X:Cx)(ifs:List Expr)(t:TT):Prop:=
 ∀(pins:zzC) (s:Shared) (σ:St) (H:Hp) (Q:Bool->Hp->Prop),Inv X pins σ H s->t σ H Q->
  wpAny (model X.prog X.w) X.A (forIn ifs true λc r=>if r=true then do let ok ←isTrue c X.env (eval c X.env); pure (ForInStep.yield ok) else pure (ForInStep.yield r)) (TP X pins σ Q) X.xe s
noncomputable def kq:TT:=λ_ H Q=>Q true H
theorem bJ {X:Cx}:PF X [] kq:=λ_ _ _ H _ I h=>wpAny_tests_nil ⟨H,I,h⟩
theorem m8 {X:Cx}{c:Expr}{t:TT}(h:PT X c t):PF X [c] t:=λpins s σ H Q I hw=>wpAny_tests_one (h pins s σ H Q I hw)
theorem A7 {prog:Program}{w:World}{A:Around}{R:Result->Shared->Prop}{s:Shared}{elt target iter:Expr}{ifs:List Expr}{scope:Scope}{pos:Pos}{it acc:Value}{env:Env}(I:Nat->Shared->Prop)
  (turn:∀n s,I n s->wpAny (model prog w) A (pyNext it) (λr s₁=>match r with
   | none=>R (.ok .next) s₁
   | some v=>wpAny (model prog w) A (letOwnedTupleGo target it v) (λ_ s₀=>wpAny (model prog w) A (assign target env v) (λ_ s₂=>
     wpAny (model prog w) A (forIn ifs true λc r=>if r=true then do let ok ←isTrue c env (eval c env); pure (ForInStep.yield ok) else pure (ForInStep.yield r)) (λok s₃=>
      if ok=true then wpAny (model prog w) A (eval elt env) (λx s₄=>
       wpAny (model prog w) A (call (.builtin "list.append") [acc,x]) (λ_ s₅=>∃m,m < n/\I m s₅) (λ_ _=>False) s₄) (λ_ _=>False) s₃
      else ∃m,m < n/\I m s₃) (λ_ _=>False) s₂) (λ_ _=>False) s₀) (λ_ _=>False) s₁) (λ_ _=>False) s)
  (n:Nat) (h:I n s) :
  codeAny (model prog w) A (.compLoop (.ListComp elt [⟨target,iter,ifs,0⟩] scope pos) 0 it acc env) R s:=by
 refine codeAny_loop rfl I (λn s hI=>?_) n h
 show wpAny _ A ((compTurn (.ListComp elt [⟨target,iter,ifs,0⟩] scope pos) 0 it acc env).onRaise (λx=>do noteFrame x env; theTreesLotGoes x)) _ _ s
 refine wpAny_noted ?_
 rw[compTurn_list]
 refine yB (wpAny_standAt (yB (zCw (turn n s hI) (λr s₁ h₁=>?_) λ_ _ z=>z.elim)))
 cases r with
 | none=>exact y6 h₁
 | some v=>
  refine yB (zCw h₁ (λ_ s₀ h₀=>?_) λ_ _ z=>z.elim)
  refine yB (zCw h₀ (λ_ s₂ h₂=>yB (zCw h₂ (λok s₃ h₃=>?_) λ_ _ z=>z.elim)) λ_ _ z=>z.elim)
  cases ok with
  | false=>exact y6 ⟨rfl,h₃⟩
  | true=>
   exact yB (yB (zCw h₃ (λx s₄ h₄=>yB (zCw h₄ (λ_ s₅ h₅=>y6 (y6 ⟨rfl,h₅⟩)) λ_ _ z=>z.elim)) λ_ _ z=>z.elim))
noncomputable def dP (J:It)(ix:List (Option Nat))(g:TG)(tf:TT)(te:TE)(σ:St)(H1:Hp)(Q:Addr->Hp->Prop):Prop:=
 ∀D,H1 D=none->∃W:Nat->Nat->List V->Hp->Prop,(∃m,W 0 m [] (upd H1 D (.lst [])))/\∀i m ys H2,W i m ys H2->H2 D=some (.lst ys)->
  (J.stop i H2/\Q D H2)\/(J.go i H2/\∀x H3,J.Dc i H2 x H3->g x (cN ix σ) H3 fun σ4 H4=>tf σ4 H4 λb H5=>
   if b=true then te σ4 H5 λv H6=>H6 D=some (.lst ys)/\ys.length < sizeLine/\∃m',m' < m/\W (i+1) m' (ys++[v]) (upd H6 D (.lst (ys++[v])))
   else H5 D=some (.lst ys)/\∃m',m' < m/\W (i+1) m' ys H5)
noncomputable def jR (wi:TI)(ix:List (Option Nat))(g:TG)(tf:TT)(te:TE):TE:=fun σ H Q=>wi σ H λJ H1=>dP J ix g tf te σ H1 λD H2=>Q (.ref D) H2
section
variable {X:Cx}{N':List Str}{ix:List (Option Nat)}{sc:Scope}{elt tg iter:Expr}{ifs:List Expr}{wi:TI}{g:TG}{tf:TT}{te:TE}{pos:Pos}
set_option maxHeartbeats 1000000 in
theorem v9 (S:fU X N' ix sc)(hc:X.calm=true)
  (hg:∀C s₀ H₀ ex,PG (dI X N' sc C s₀ H₀ ex) tg g) (hf:∀C s₀ H₀ ex,PF (dI X N' sc C s₀ H₀ ex) ifs tf) (he:∀C s₀ H₀ ex,PE (dI X N' sc C s₀ H₀ ex) elt te)
  {pins:zzC} {σ:St} {s2:Shared} {itv:Value} {Q:Addr->Hp->Prop} {E:zzE} {RR:Value->Addr->Result->Shared->Prop}
  (h2:Nq X pins σ tg (λJ H1=>dP J ix g tf te σ H1 Q) itv s2)
  (hR:∀(D C:Addr) (H3 H':Hp) (s3 s':Shared) (σ':St) (ex:List Addr) (ps:zzC),C=s3.heap.objs.size->Inv X pins σ H3 s3->(∀b∈ex,iX X pins H3 b)->Inv (dI X N' sc s3.heap.objs.size s3 H3 ex) ps σ' H' s'->Q D H'->RR (.ref D) C (.ok .next) s') :
  wpAny (model X.prog X.w) X.A (newList []) (λacc s₃=>wpAny (model X.prog X.w) X.A (newFunctionEnv sc X.env.globals (dj X.env.cells sc.names []) [] X.env.qual none .none (some X.env)) (λcenv s₄=>
   codeAny (model X.prog X.w) X.A (.compStart (.ListComp elt [⟨tg,iter,ifs,0⟩] sc pos) 0 itv acc { cenv with scope:=relabel sc X.env }) (RR acc cenv.locals) s₄) E s₃) E s2:=by
 obtain⟨it,fp,tn,J,H2,rfl,I2,T,st2,f2,cw⟩:=h2
 obtain⟨W,⟨m0,w0⟩,turn⟩:=cw s2.heap.objs.size I2.fresh
 refine zBl ?_
 generalize RC:({ s2 with heap:=s2.heap.push { cls:=.type "list",dict:=none,data:=.seq ([]:List Value).toArray } }:Shared)=s3
 have I3:Inv X pins σ (upd H2 s2.heap.objs.size (.lst [])) s3:=by
  rw[←RC]
  exact I2.EG (its:=[]) (t':=s2.toks) .nil (zAw _)
 have UC:∀b o,s2.heap.get? b=some o->s3.heap.get? b=some o:=λb o e=>by rw[←RC]; exact y8 _ e
 have fD:∀b∈fp,b≠s2.heap.objs.size:=λb hb=>by
  obtain⟨o,e,_⟩:=T.obj _ _ st2 b hb
  exact zAn (kA e)
 have f3:∀b∈fp,iX X pins (upd H2 s2.heap.objs.size (.lst [])) b:=λb hb=>⟨by rw[aT (fD b hb)]; exact (f2 b hb).1,(f2 b hb).2⟩
 have st3:tn 0 s3.heap:=T.keep _ _ _ st2 λb _ o e=>UC b o e
 have e3:∀b∈fp,∃o,s3.heap.get? b=some o:=λb hb=>by
  obtain⟨o,e,_⟩:=T.obj _ _ st3 b hb
  exact⟨o,e⟩
 refine CO ?_
 have J4:=EN (ex:=fp) S I3 f3 e3
 have UD:∀b o,s3.heap.get? b=some o->(pushCells (s3.heap.push { cls:=.type "dict",data:=.dict #[] }) sc.names).get? b=some o:=λb o e=>pushCells_keeps _ _ _ _ (y8 _ e)
 generalize UE:({ s3 with heap:=pushCells (s3.heap.push { cls:=.type "dict",data:=.dict #[] }) sc.names }:Shared)=s4 at J4
 have Kp:tn 0 s4.heap:=by rw[←UE]; exact T.keep _ _ _ st3 λb _ o e=>UD b o e
 show codeAny (model X.prog X.w) X.A (.compStart (.ListComp elt [⟨tg,iter,ifs,0⟩] sc pos) 0 (.ref it) (.ref s2.heap.objs.size) (compEnv sc s3.heap.objs.size X.env)) (RR (.ref s2.heap.objs.size) s3.heap.objs.size) s4
 generalize hY:dI X N' sc s3.heap.objs.size s3 (upd H2 s2.heap.objs.size (.lst [])) fp=Y at J4
 have yP:Y.prog=X.prog:=by rw[←hY]; rfl
 have yw:Y.w=X.w:=by rw[←hY]; rfl
 have yK:Y.K=X.K:=by rw[←hY]; rfl
 have yA:Y.A=X.A:=by rw[←hY]; rfl
 have ye:Y.env=compEnv sc s3.heap.objs.size X.env:=by rw[←hY]; rfl
 have yx:Y.xe=λ_ _=>False:=by rw[←hY]; rfl
 have yc:Y.calm=true:=by rw[←hY]; exact hc
 have XO:Y.fs=frs X.stack:=by rw[←hY]; rfl
 have N1:Y.ex=fp:=by rw[←hY]; rfl
 have UG:Y.pn=[]:=by rw[←hY]; rfl
 have yl:Y.env.locals=s3.heap.objs.size:=by rw[ye]; rfl
 have UH:PG Y tg g:=by rw[←hY]; exact hg _ _ _ _
 have UI:PF Y ifs tf:=by rw[←hY]; exact hf _ _ _ _
 have UJ:PE Y elt te:=by rw[←hY]; exact he _ _ _ _
 have RD:=J4.ok
 have stat:∀{H':Hp},(∀b∈fp,H' b=none)->∀b∈fp,iX Y [] H' b:=λhn b hb=>by
  have x:=RD.Ng b (by rw[N1]; exact hb)
  exact⟨hn b hb,x.1,RD.AB b (by rw[N1]; exact hb),.inl (by rw[N1]; exact hb),x.2,λp hp=>by rw[UG] at hp; exact absurd hp (by simp)⟩
 have loop:codeAny (model X.prog X.w) X.A (.compLoop (.ListComp elt [⟨tg,iter,ifs,0⟩] sc pos) 0 (.ref it) (.ref s2.heap.objs.size) (compEnv sc s3.heap.objs.size X.env)) (RR (.ref s2.heap.objs.size) s3.heap.objs.size) s4:=by
  refine A7 (λn s'=>∃i ys H',Inv Y [] (cN ix σ) H' s'/\tn i s'.heap/\(∀b∈fp,H' b=none)/\H' s2.heap.objs.size=some (.lst ys)/\W i n ys H') ?_ m0 ⟨0,[],_,J4,Kp,λb hb=>(f3 b hb).1,aA,w0⟩
  rintro n s5 ⟨i,ys,H5,I5,Dd,Kg,UK,w5⟩
  have Xq:(cN ix σ).length=Y.N.length:=J4.len
  rcases turn i n ys H5 w5 UK with ⟨stop,q⟩ | ⟨go,step⟩
  ·have r:=T.done Y yP yw yK yc i [] s5 (cN ix σ) H5 (λ_ _=>False) I5 (stat Kg) Dd stop
   rw[yA] at r
   refine aZ r λr s6 ⟨hr,I6⟩=>?_
   subst hr
   refine hR _ _ _ H5 s3 s6 (cN ix σ) fp [] rfl I3 f3 ?_ q
   rw[hY]; exact I6
  ·have r:=T.item Y yP yw yK yc i [] s5 (cN ix σ) H5 (λ_ _=>False) I5 (stat Kg) Dd go
   rw[yA] at r
   refine aZ r λr s6 ⟨u,hr,h6⟩=>?_
   subst hr
   refine aZ h6 λ_ s7 ⟨x,H7,I7,r7,y7,N2,UL⟩=>?_
   have UM:=I7.pinned (stat UL) (T.obj _ _ N2)
   have r2:=UH _ s7 (cN ix σ) H7 x u _ UM r7 (step x H7 y7)
   rw[yP,yw,yA,ye,yx] at r2
   refine aZ r2 λ_ s8 ⟨σ8,H8,I8,q8⟩=>?_
   have r3:=UI _ s8 σ8 H8 _ I8 q8
   rw[yP,yw,yA,ye,yx] at r3
   refine aZ r3 λok s9 ⟨H9,I9,q9⟩=>?_
   have again:∀{s10:Shared} {σ10:St} {ic:Hp},Inv Y ([]++o8 fp s7.heap) σ10 ic s10->σ10.length=Y.N.length->Inv Y [] (cN ix σ) ic s10->tn (i+1) s10.heap/\∀b∈fp,ic b=none:=λ{s10 σ10 ic} J _ _=>by
    have p:=λb hb o e=>J.pin (b,o) (zBm _ (zBm _ (qe (fp:=fp) (h:=s7.heap) (b:=b) (o:=o) hb e)))
    refine⟨T.keep _ _ _ N2 λb hb o e=>(p b hb o e).1,λb hb=>?_⟩
    obtain⟨o,e,d⟩:=T.obj _ _ N2 b hb
    exact (p b hb o e).2.1
   have back:∀{s10:Shared} {ic:Hp},Inv Y ([]++o8 fp s7.heap) σ8 ic s10->Inv Y [] (cN ix σ) ic s10:=λ{s10 ic} J=>by
    rw[←hY] at J ⊢
    exact comp_back S I3 f3 J
   cases ok with
   | false=>
    rw[xL (by decide)] at q9 ⊢
    obtain⟨UN,m',hm,w9⟩:=q9
    have B:=back I9
    have z:=again I9 I9.len B
    exact⟨m',hm,i+1,ys,H9,B,z.1,z.2,UN,w9⟩
   | true=>
    rw[x4 rfl] at q9 ⊢
    have r4:=UJ _ s9 σ8 H9 _ I9 q9
    rw[yP,yw,yA,ye,yx] at r4
    refine aZ r4 λv s10 ⟨y,ic,UO,r10,Tf,hz,m',hm,UP⟩=>?_
    have r5:=cT (X:=Y) _ s10 σ8 ic (.ref s2.heap.objs.size) [y] (.ref s2.heap.objs.size) [v] (λ_ A8=>A8=upd ic s2.heap.objs.size (.lst (ys++[y]))) UO rfl (.cons r10 .nil) ⟨_,ys,y,rfl,rfl,Tf,hz,rfl⟩
    rw[yP,yw,yA,yx] at r5
    refine aZ r5 λ_ pD ⟨_,A8,N3,_,d7⟩=>?_
    subst d7
    have B:=back N3
    have z:=again N3 N3.len B
    exact⟨m',hm,i+1,ys++[y],_,B,z.1,z.2,aA,UP⟩
 exact codeAny_compStart_list loop (T.self _ 0 _ _ _ Kp loop)
theorem bz (S:fU X N' ix sc)(hc:X.calm=true)(hi:PI X tg iter wi)
  (hg:∀C s₀ H₀ ex,PG (dI X N' sc C s₀ H₀ ex) tg g) (hf:∀C s₀ H₀ ex,PF (dI X N' sc C s₀ H₀ ex) ifs tf) (he:∀C s₀ H₀ ex,PE (dI X N' sc C s₀ H₀ ex) elt te)
  (hs:∀x,foldedSetIterable iter X.env x=pure x:=by intro _; rfl):PE X (.ListComp elt [⟨tg,iter,ifs,0⟩] sc pos) (jR wi ix g tf te):=by
 intro pins s σ H Q I h
 rw[eval_ListComp]
 have hcl:closureFor sc X.env=pure (dj X.env.cells sc.names []):=v7 λx hx hk=>I.ok.has x.1 (S.free x hx hk)
 have hnames:∀x∈sc.names,x.2=.local->sc.names.lookup x.1=some .local:=λx hx hk=>h_ S.uniq (by rw[←hk]; exact hx)
 refine wpAny_comprehension_free (use:=none) rfl hs hcl S.kind hnames (aZ (hi pins s σ H _ I h) λv s1 h1=>aZ h1 λitv s2 h2=>?_)
 refine v9 S hc hg hf he (RR:=λacc C=>compPost (model X.prog X.w) X.A X.xe none (EP X pins σ Q) acc C) h2 ?_
 intro D C H3 H' s3 s' σ' ex ps eC I3 f3 J q
 subst eC
 obtain⟨m,hn,_⟩:=J.loc
 exact⟨m,hn,λh' hs'=>⟨.ref D,H',v8 I3 f3 J hs',rfl,q⟩⟩
noncomputable def m9 (i:Nat)(wi:TI)(ix:List (Option Nat))(g:TG)(tf:TT)(te:TE):TS:=λD σ H=>wi σ H λJ H1=>dP J ix g tf te σ H1 λa H2=>D.nx (σ.set i (some (.ref a))) H2
theorem fc {i:Nat}{y:Str}{py spos:Pos}(hN:X.N.Nodup)(hy:X.N[i]?=some y)(hL:Loc X.env.scope y)(S:fU X N' ix sc)(hc:X.calm=true)(hi:PI X tg iter wi)
  (hg:∀C s₀ H₀ ex,PG (dI X N' sc C s₀ H₀ ex) tg g) (hf:∀C s₀ H₀ ex,PF (dI X N' sc C s₀ H₀ ex) ifs tf) (he:∀C s₀ H₀ ex,PE (dI X N' sc C s₀ H₀ ex) elt te)
  (hsw:swapsWith (.ListComp elt [⟨tg,iter,ifs,0⟩] sc pos) (some (.Name y py)) spos.line X.env=pure true:=by rfl)
  (hs:∀x,foldedSetIterable iter X.env x=pure x:=by intro _; rfl)
  (hfn:X.fn y=true\/X.env.scope.names.lookup y=some .local:=by first | exact .inl rfl | exact .inr rfl | assumption) :
  PS X (.Assign [.Name y py] (.ListComp elt [⟨tg,iter,ifs,0⟩] sc pos) spos) (m9 i wi ix g tf te):=by
 intro pins s σ H D I h
 rw[exec_Assign_Name_used _ _ _ _ hsw]
 refine yB (wpAny_standAt (yB ?_))
 show wpAny _ X.A (do let _ ←comprehension (.ListComp elt [⟨tg,iter,ifs,0⟩] sc pos) sc X.env _ (newList []) false (eval iter X.env) (some (assign (.Name y py) X.env))) _ _ s
 have hcl:closureFor sc X.env=pure (dj X.env.cells sc.names []):=v7 λx hx hk=>I.ok.has x.1 (S.free x hx hk)
 have hnames:∀x∈sc.names,x.2=.local->sc.names.lookup x.1=some .local:=λx hx hk=>h_ S.uniq (by rw[←hk]; exact hx)
 refine yB (zCw (wpAny_comprehension_free (use:=some (assign (.Name y py) X.env)) (Q:=λ_ s'=>SP X pins D .next s') rfl hs hcl S.kind hnames
  (aZ (hi pins s σ H _ I h) λv s1 h1=>aZ h1 λitv s2 h2=>?_)) (λ_ s' hq=>y6 (y6 hq)) λ_ _ e=>e)
 refine v9 S hc hg hf he (RR:=λacc C=>compPost (model X.prog X.w) X.A X.xe (some (assign (.Name y py) X.env)) (λ_ s'=>SP X pins D .next s') acc C) h2 ?_
 intro a C H3 H' s3 s' σ' ex ps eC I3 f3 J q
 subst eC
 obtain⟨m,hn,_⟩:=J.loc
 have I5:Inv X pins σ H' { s' with heap:=s'.heap }:=v8 I3 f3 J (Heap.SameBut.refl _ _)
 have neL:X.env.locals≠s3.heap.objs.size:=zAn I3.lt
 have neC:∀x c,X.env.cells.lookup x=some c->c≠s3.heap.objs.size:=λx c e=>by
  obtain⟨v,z⟩:=I3.cell x c e
  exact zAn z.lt
 show wpAny (model X.prog X.w) X.A (assign (.Name y py) X.env (.ref a)) _ X.xe s'
 refine wpAny_assign_Name (yN (v:=.ref a) I5 hN hy hL rfl (λs6 I6 hb=>?_) hfn)
 obtain⟨b,sb,hb⟩:=hb
 have nb:s3.heap.objs.size≠b:=by
  rcases hb with z | z
  ·rw[z]; exact Ne.symm neL
  ·exact Ne.symm (neC _ _ z)
 refine⟨m,hn.sameBut sb nb,λh' hs'=>?_⟩
 refine⟨_,H',I6.turned (t':=s6.toks) (it:=s3.heap.objs.size) (λb o hb e=>(hs'.2 b hb).trans e) J.free (Ne.symm neL) (.inr I3.sz) neC (λp hp z=>?_),q⟩
 have:=(I3.pin p hp).1
 exact absurd (kA this) (by rw[z]; exact zB6 _)
end
noncomputable def Gq (on:List (Str × NameKind))(N N':List Str)(ix:List (Option Nat))(sc:Scope):Bool:=
 decide (sc.kind=.function)&&decide N'.Nodup&&decide (sc.names.map (·.1)).Nodup&&decide (ix.length=N'.length)&&
  sc.names.all (λx=>decide (x.2≠.free)||decide (on.lookup x.1=some .cell)||decide (on.lookup x.1=some .free))&&
  (range ix.length).all λi=>match ix[i]? with
   | some (some j)=>(match N'[i]? with
    | some x=>decide (N[j]?=some x)&&decide (sc.names.lookup x=some .free)
    | none=>false)
   | _=>true
theorem aK {X:Cx}{N':List Str}{ix:List (Option Nat)}{sc:Scope}(h:Gq X.env.scope.names X.N N' ix sc=true):fU X N' ix sc:=by
 unfold Gq at h
 simp only [zBy,zDg,zC2,Bool.or_eq_true,zAq] at h
 obtain⟨⟨⟨⟨⟨h1,h2⟩,h3⟩,h4⟩,h5⟩,h6⟩:=h
 refine⟨h1,h2,h3,h4,λx hx hk=>?_,λi j e=>?_⟩
 ·rcases h5 x hx with (q | q) | q
  ·exact absurd hk q
  ·exact .inl q
  ·exact .inr q
 ·have hi:i < ix.length:=(zAp.mp e).1
  have q:=h6 i hi
  rw[e] at q
  dsimp only at q
  cases e2:N'[i]? with
  | none=>rw[e2] at q; cases q
  | some x=>
   rw[e2] at q
   simp only [zBy,zDg] at q
   exact⟨x,rfl,q.1,q.2⟩
theorem ai.new {H:Hp}{p:Addr}(h:H p=none)(o:HO):ai H (upd H p o):=λb u q=>by rw[aT (bX q h)]; exact q
theorem ai.put {H H':Hp}{p:Addr}(e:ai H H')(h:H p=none)(o:HO):ai H (upd H' p o):=λb u q=>by rw[aT (bX q h)]; exact e b u q
theorem ai.tup {K:zzA}{H H':Hp}{a:Addr}{xs:List V}(e:ai H H')(h:aJ K H a xs):aJ K H' a xs:=by
 rcases h with (h | ⟨o,h⟩) | h
 ·exact .inl (.inl (e a _ h))
 ·exact .inl (.inr ⟨o,e a _ h⟩)
 ·exact .inr h
section
variable {K:zzA}{ix:List (Option Nat)}{g:TG}{tf:TT}{te:TE}{σ:St}{H1:Hp}{Q:Addr->Hp->Prop}
theorem lq {a:Addr}{xs:List V}(hq:aD K H1 a xs)(hz:xs.length<=sizeLine)(Pv:Nat->List V->Hp->Prop)
  (h0:∀D,H1 D=none->Pv 0 [] (upd H1 D (.lst [])))
  (hs:∀D i x ys H (R1:VK) (R0:Hp->Prop),H1 D=none->xs[i]?=some x->ai H1 H->H D=some (.lst ys)->Pv i ys H->(∀v H6,ai H H6->Pv (i+1) (ys++[v]) (upd H6 D (.lst (ys++[v])))->R1 v H6)->
   (∀H5,ai H H5->Pv (i+1) ys H5->R0 H5)->g x (cN ix σ) H fun σ4 H4=>tf σ4 H4 λb H5=>if b=true then te σ4 H5 R1 else R0 H5)
  (hd:∀D ys H,H1 D=none->ai H1 H->H D=some (.lst ys)->ys.length<=xs.length->Pv xs.length ys H->Q D H):dP (rB K a) ix g tf te σ H1 Q:=by
 intro D hD
 refine⟨λi m ys H=>m=xs.length - i/\i<=xs.length/\ai H1 H/\ys.length<=i/\Pv i ys H,⟨xs.length,by simp,zAw _,ai.new hD _,x3 _,h0 D hD⟩,?_⟩
 rintro i m ys H ⟨rfl,hi,sm,hl,p⟩ aV
 have q:=sm.seq hq
 by_cases hlt:i < xs.length
 ·refine .inr ⟨⟨xs,xs[i],q,by simp [hlt]⟩,λx H3 y=>?_⟩
  obtain⟨e,y⟩:=y
  subst e
  refine hs D i x ys _ _ _ hD (y xs q) sm aV p (λv H6 r1 r2=>?_) λH5 r1 r2=>?_
  ·refine⟨r1 _ _ aV,by omega,xs.length - (i+1),by omega,rfl,hlt,(sm.trans r1).put hD _,?_,r2⟩
   rw[zAb,zC7]; omega
  ·exact⟨r1 _ _ aV,xs.length - (i+1),by omega,rfl,hlt,sm.trans r1,by omega,r2⟩
 ·have e:i=xs.length:=by omega
  subst e
  exact .inl ⟨⟨xs,q,x3 _⟩,hd D ys H hD sm aV hl p⟩
theorem v_ {lo:Int}{n:Nat}(hz:n<=sizeLine)(Pv:Nat->List V->Hp->Prop)
  (h0:∀D,H1 D=none->Pv 0 [] (upd H1 D (.lst [])))
  (hs:∀D i ys H (R1:VK) (R0:Hp->Prop),H1 D=none->i < n->ai H1 H->H D=some (.lst ys)->Pv i ys H->(∀v H6,ai H H6->Pv (i+1) (ys++[v]) (upd H6 D (.lst (ys++[v])))->R1 v H6)->
   (∀H5,ai H H5->Pv (i+1) ys H5->R0 H5)->g (.int (lo+i)) (cN ix σ) H fun σ4 H4=>tf σ4 H4 λb H5=>if b=true then te σ4 H5 R1 else R0 H5)
  (hd:∀D ys H,H1 D=none->ai H1 H->H D=some (.lst ys)->ys.length<=n->Pv n ys H->Q D H):dP (qx lo n) ix g tf te σ H1 Q:=by
 intro D hD
 refine⟨λi m ys H=>m=n - i/\i<=n/\ai H1 H/\ys.length<=i/\Pv i ys H,⟨n,by simp,zAw _,ai.new hD _,x3 _,h0 D hD⟩,?_⟩
 rintro i m ys H ⟨rfl,hi,sm,hl,p⟩ aV
 by_cases hlt:i < n
 ·refine .inr ⟨hlt,λx H3 y=>?_⟩
  obtain⟨e,y⟩:=y
  subst e; subst y
  refine hs D i ys _ _ _ hD hlt sm aV p (λv H6 r1 r2=>?_) λH5 r1 r2=>?_
  ·refine⟨r1 _ _ aV,by omega,n - (i+1),by omega,rfl,hlt,(sm.trans r1).put hD _,?_,r2⟩
   rw[zAb,zC7]; omega
  ·exact⟨r1 _ _ aV,n - (i+1),by omega,rfl,hlt,sm.trans r1,by omega,r2⟩
 ·have e:i=n:=by omega
  subst e
  exact .inl ⟨x3 _,hd D ys H hD sm aV hl p⟩
theorem zV {α β:Type}(f:α->β)(xs:List α)(i:Nat)(x:α)(h:xs[i]?=some x):(xs.take (i+1)).map f=(xs.take i).map f++[f x]:=by
 rw[zBv,h]
 simp
theorem cH {lo:Int}{n i₀:Nat}(f:Nat->V)(hz:n<=sizeLine)
  (hs:∀(i:Nat) (H:Hp) (R:VK),i < n->ai H1 H->(∀H6,ai H H6->R (f i) H6)->te ((cN ix σ).set i₀ (some (.int (lo+i)))) H R)
  (hd:∀D H,H1 D=none->ai H1 H->H D=some (.lst ((range n).map f))->Q D H):dP (qx lo n) ix (bC i₀) kq te σ H1 Q:=by
 refine v_ hz (λi ys _=>ys=(range i).map f) (λD hD=>by simp) (λD i ys H R1 R0 hD hi sm aV p k1 k0=>?_) λD ys H hD sm aV hl p=>?_
 ·show te ((cN ix σ).set i₀ (some (.int (lo+i)))) H R1
  exact hs i H R1 hi sm λH6 s6=>k1 _ _ s6 (by rw[zBp,v4,p]; rfl)
 ·refine hd D H hD sm ?_
  rw[aV,p]
end
section
variable {X:Cx}
theorem wc:∀{ys:List Str} {us:List Value},Vals (ys.map V.str) us->StrsAre us ys
 | [],_,h=>by cases h; exact .nil
 | y::ys,_,h=>by
  cases h with
  | cons r t=>
   obtain⟨tk,rfl⟩:=r
   exact .cons y tk (wc t)
noncomputable def rJoin (K:zzA):V->List V->Hp->VK->Prop:=λx vs H Q=>∃sep a ys,x=.str sep/\vs=[.ref a]/\aD K H a (ys.map V.str)/\(ys.map (·.length)).sum+ys.length * sep.length<=16777216/\Q (.str (join sep ys)) H
theorem LY:Km X "str.join" (rJoin X.K):=by
 intro pins s σ H x vs v us Q I rx rv h
 obtain⟨sep,a,ys,rfl,rfl,hq,hz,q⟩:=h
 obtain⟨t,rfl⟩:=rx
 obtain⟨u,rfl,ru⟩:=rv.one
 cases ru
 obtain⟨its,r,p,_⟩:=I.list hq
 exact join_list p.isList (by simpa using wc r) hz λt' k=>⟨.str _,H,I.tok _,⟨_,rfl⟩,q⟩
theorem EO {h:Heap}{sl:Addr}{vl vu vs:Value}{lo hi st:Option Int}(hs:h.IsSliceOf sl vl vu vs)(pl:IsPart vl lo)(pu:IsPart vu hi)(ps:IsPart vs st) :
  ∃l u t,l.map (·.1)=lo/\u.map (·.1)=hi/\t.map (·.1)=st/\h.IsSlice sl l u t:=by
 obtain⟨o,ho,hc,hd⟩:=hs
 cases pl <;> cases pu <;> cases ps
 ·exact⟨none,none,none,rfl,rfl,rfl,o,ho,hc,hd⟩
 ·exact⟨none,none,some (_,_),rfl,rfl,rfl,o,ho,hc,hd⟩
 ·exact⟨none,some (_,_),none,rfl,rfl,rfl,o,ho,hc,hd⟩
 ·exact⟨none,some (_,_),some (_,_),rfl,rfl,rfl,o,ho,hc,hd⟩
 ·exact⟨some (_,_),none,none,rfl,rfl,rfl,o,ho,hc,hd⟩
 ·exact⟨some (_,_),none,some (_,_),rfl,rfl,rfl,o,ho,hc,hd⟩
 ·exact⟨some (_,_),some (_,_),none,rfl,rfl,rfl,o,ho,hc,hd⟩
 ·exact⟨some (_,_),some (_,_),some (_,_),rfl,rfl,rfl,o,ho,hc,hd⟩
noncomputable def bV (x:Str)(lo hi st:Option Int):Str:=
 if ((st.getD 1 == 1&&(strSliceIndices lo hi (st.getD 1) x.length).length == x.length)=true) then x else ⟨((strSliceIndices lo hi (st.getD 1) x.length).filterMap (x.cps[·]?)).toArray⟩
theorem Gr (x:Str)(lo hi st:Option Int)(h0:st.getD 1≠0):(bV x lo hi st).length<=x.length:=by
 unfold bV
 split
 ·exact x3 _
 ·show (List.filterMap _ _).toArray.size<=x.length
  rw[zAe]
  exact zAu (List.length_filterMap_le _ _) (sliceIndicesBy_le _ _ _ h0 x.length)
theorem nU {pins:zzC}{s:Shared}{σ:St}{H:Hp}{x:Str}{t:Tok}{sl:Addr}{vl vu vs:Value}{lo hi st:Option Int}{Q:VK}(I:Inv X pins σ H s)(hs:s.heap.IsSliceOf sl vl vu vs)(pl:IsPart vl lo)(pu:IsPart vu hi)(ps:IsPart vs st)
  (h0:st.getD 1≠0) (hz:x.length<=sizeLine) (q:Q (.str (bV x lo hi st)) H):wpAny (model X.prog X.w) X.A (getItem (.str x t) (.ref sl)) (EP X pins σ Q) X.xe s:=by
 obtain⟨l,u,t',e1,e2,e3,z⟩:=EO hs pl pu ps
 have N4:(t'.map (·.1)).getD 1=st.getD 1:=by rw[e3]
 have hb:((t'.map (·.1)).getD 1 == 0)=false:=by rw[N4]; simpa using h0
 refine wpAny_getItem_str_slice z hb ?_
 have hp:slicePicked x l u t'=strSliceIndices lo hi (st.getD 1) x.length:=by unfold slicePicked; rw[e1,e2,N4]
 unfold sliceMade
 rw[hp,N4]
 exact post_val_or_str ⟨zAu (Gr x lo hi st h0) hz,λt'' k=>⟨.str _,H,I.tok _,⟨_,rfl⟩,q⟩⟩
noncomputable def I0:V->Option Int->Option Int->Hp->VK->Prop:=λx lo hi H Q=>∃y,x=.str y/\y.length<=sizeLine/\Q (.str (bV y lo hi none)) H
theorem Gu:Di X I0:=by
 intro pins s σ H x v vl vu lo hi sl Q I rx hs pl pu h
 obtain⟨y,rfl,hz,q⟩:=h
 obtain⟨t,rfl⟩:=rx
 exact⟨"str",_,F.slot_str_getitem.lookup,typeIs_str _ _ _,nU I hs pl pu .none (by decide) hz q⟩
variable {e:Expr}{te:TE}{pos p2 p3 p4:Pos}
noncomputable def N5 (K:zzA)(te:TE):TE:=fun σ H Q=>te σ H λx H1=>(∃y,x=.str y/\y.length<=sizeLine/\Q (.str (bV y none none (some (-1)))) H1)\/
 ∃a xs,x=.ref a/\aD K H1 a xs/\∀p,H1 p=none->Q (.ref p) (upd H1 p (.lst xs.reverse))
theorem zb {α:Type}(xs:List α):∀k:Nat,(range k).filterMap (xs[·]?)=xs.take k
 | 0=>by simp
 | k+1=>by
  rw[zBp,List.filterMap_append,zb xs k,zBv]
  cases e:xs[k]? <;> simp [e]
theorem LZ (n:Nat):sliceRange ((n:Int) - 1) (-1) (-1)=(range n).reverse:=by
 unfold sliceRange
 dsimp only
 rw[xL (by decide)]
 have hc:(if ((n:Int) - 1) > -1 then ((n:Int) - 1 - -1 - -1 - 1) / (- -1) else 0)=(n:Int):=by
  split
  ·rw[show (- -1:Int)=1 by decide,Int.ediv_one]; omega
  ·omega
 rw[hc,zAg]
 refine zCa (by simp) λi h1 h2=>?_
 have hi:i < n:=by simpa using h1
 simp only [List.getElem_map,List.getElem_range,List.getElem_reverse,zBd]
 omega
theorem A9 {α:Type}(xs:List α):((sliceRange ((xs.length:Int) - 1) (-1) (-1)).filterMap (xs[·]?))=xs.reverse:=by
 rw[LZ,List.filterMap_reverse,zb,zBb]
theorem I_ (its:List Value):slicePick its.toArray none none (some (-1))=its.reverse.toArray:=by
 unfold slicePick sliceBounds
 have e:=A9 its
 simp only [Option.getD_some,show ¬ ((-1:Int) > 0) by decide,zBa,zAe]
 rw[←e]
 simp
theorem N6 {j:Nat}(he:PE X e te):PE X (.Subscript e (.Slice none none (some (.UnaryOp .USub (.Constant (.int 1) j p4) p3)) p2) pos) (N5 X.K te):=by
 intro pins s σ H Q I h
 refine Subscript_ (aZ (he pins s σ H _ I h) λv s1 ⟨x,H1,I1,r1,q1⟩=>?_)
 refine wpAny_Slice ?_
 rw[evalPart_none]
 refine y6 (y6 ?_)
 rw[evalPart_some]
 refine aZ (fH dH aj pins s1 σ H1 (λy H2=>y=.int (-1)/\H2=H1) I1 ⟨1,rfl,rfl,rfl⟩) λvs s2 ⟨y,H2,I2,r2,e1,e2⟩=>?_
 subst e1; subst e2
 obtain⟨tk,rfl⟩:=r2
 have I3:Inv X pins σ H2 { s2 with heap:=s2.heap.push { cls:=.type "slice",data:=.fields #[.none,.none,.int (-1) tk] } }:=I2.kept (t':=s2.toks) λb ob q=>y8 _ q
 have hsl:(s2.heap.push { cls:=.type "slice",data:=.fields #[Value.none,.none,.int (-1) tk] }).IsSliceOf s2.heap.objs.size .none .none (.int (-1) tk):=⟨_,wE _ rfl,rfl,rfl⟩
 show wpAny (model X.prog X.w) X.A (subscriptTail e _ v (.ref s2.heap.objs.size)) (EP X pins σ Q) X.xe { s2 with heap:=s2.heap.push { cls:=.type "slice",data:=.fields #[.none,.none,.int (-1) tk] } }
 rcases q1 with ⟨y,rfl,hz,q⟩ | ⟨a,xs,rfl,hx,q⟩
 ·obtain⟨t,rfl⟩:=r1
  exact tail_any (ops:=[.str y t,.ref s2.heap.objs.size]) (typeIs_str _ _ _) F.slot_str_getitem.lookup (nU I3 hsl .none .none (.int _ _) (by decide) hz q) (by with_unfolding_all rfl)
 ·cases r1
  obtain⟨its,r,ht,hz⟩:=I3.list hx
  refine tail_any (ops:=[.ref a,.ref s2.heap.objs.size]) ht.isList.typeIs slot_list_getitem.lookup (wpAny_getItem_list_slice ht.isList hsl .none .none (.int _ _) (by decide) ?_ (by rw[zAe,←r.length]; exact hz)) (by with_unfolding_all rfl)
  rw[I_]
  refine⟨.ref _,_,I3.EG (t':=s2.toks) (ys:=xs.reverse) r.reverse (by rw[List.length_reverse]; exact hz),rfl,q _ I3.fresh⟩
theorem Ja:dg X (.builtin "all") (λxs H Q=>X.calm=true/\∃(a:Addr) (bs:List Bool),xs=[.ref a]/\aD X.K H a (bs.map V.bl)/\Q (.bl (bs.all λb=>b)) H):=by
 intro pins s σ H xs us Q I r h
 obtain⟨hc,a,bs,rfl,hq,q⟩:=h
 obtain⟨u,rfl,ru⟩:=vals1 r
 cases ru
 obtain⟨its,rv,p,hz⟩:=I.list hq
 have hlen:=rv.length
 rw[y3] at hlen
 refine call_all_walk (wpAny_pyIter_list p.isList ?_)
 have ha:a≠s.heap.objs.size:=by obtain⟨o,n,e,_⟩:=p; exact zAn (kA e)
 refine⟨s.heap.objs.size,_,_,_,_,_,λi=>(bs[i]?).getD true,rfl,Walks.list (by rw[Around.in1_handled]; exact I.ok.hd hc) s.heap.objs.size a ha its.toArray,?_,?_,λh' tk k=>?_⟩
 ·exact⟨⟨_,wE _ rfl,rfl,rfl⟩,p.isList.push _⟩
 ·intro i v s' Q' E' hv hq'
  have hv':its.toArray[i]?=some v:=hv
  have hi:its[i]?=some v:=by simpa using hv'
  have hil:i < bs.length:=by rw[hlen]; exact (zAp.mp hi).1
  obtain⟨u',Kq,UQ⟩:=rv.get (i:=i) (x:=.bl bs[i]) (by rw[wP,xI hil]; rfl)
  rw[hi] at Kq
  cases Kq
  cases UQ
  have hq2:Q' ((bs[i]?).getD true) s':=hq'
  rw[xI hil] at hq2
  exact zCy hq2
 ·have e:(range its.toArray.size).all (λi=>(bs[i]?).getD true)=bs.all λb=>b:=by
   rw[zAe,←hlen]
   rw[zCe]
   simp only [zC2,zAq]
   constructor
   ·intro z b hb
    obtain⟨i,hi,e⟩:=zDc.mp hb
    have:=z i hi
    rw[xI hi] at this
    rw[←e]; exact this
   ·intro z i hi
    rw[xI hi]
    exact z _ (zB9 hi)
  rw[e]
  have I2:Inv X pins σ H { s with heap:=s.heap.push { cls:=.type "list_iterator",data:=.fields #[.ref a,.int 0 0] } }:=I.kept (t':=s.toks) λb o e=>y8 _ e
  exact⟨.bl _,H,I.kept (t':=tk) (h':=h') λb o e=>k b o (by simp; exact zAn (kA e)) (y8 _ e),rfl,q⟩
noncomputable def N7 (f:Nat->V)(n:Nat):It:=⟨λi _=>i < n,λi H x H'=>H'=H/\x=f i,λi _=>n<=i⟩
noncomputable def ff (x:Str)(i:Nat):V:=.str ⟨#[x.cps.getD i 0]⟩
theorem A_ {P:Program}{w:World}{K:zzA}{tg:Expr}(it:Addr)(ty:String)(x:Str)(t:Tok)(hty:["enumerate","zip","dict_itemiterator","dict_reverseitemiterator","odict_iterator","itertools.zip_longest","itertools.pairwise"].contains ty=false)
  (wi:∀(A:Around) (s:Shared) (i c:Nat) (Q:Option Value->Shared->Prop) (E:zzE),s.heap.IsStrIter it ty x t i->x.cps[i]?=some c->(∀h',h'.IsStrIter it ty x t (i+1)->Heap.SameBut it s.heap h'->Q (some (.str ⟨#[c]⟩ s.toks)) { s with heap:=h',toks:=s.toks+1 })->wpAny (model P w) A (pyNext (.ref it)) Q E s)
  (we:∀(A:Around) (s:Shared) (i:Nat) (Q:Option Value->Shared->Prop) (E:zzE),A.handled=none->s.heap.IsStrIter it ty x t i->x.cps[i]?=none->(∀h',Heap.ExtBut it s.heap h'->Q none { s with heap:=h' })->wpAny (model P w) A (pyNext (.ref it)) Q E s)
  (ws:∀(A:Around) (s:Shared) (i:Nat) (Q:zzE) (E:zzE),s.heap.IsStrIter it ty x t i->Q (.ref it) s->wpAny (model P w) A (pyIter (.ref it)) Q E s) :
  Turn P w K tg (N7 (ff x) x.cps.size) [it] it (λi h=>h.IsStrIter it ty x t i) where
 mem:=by simp
 obj:=λi h st b hb=>by
  have e:b=it:=by simpa using hb
  subst e
  obtain⟨o,e,c,d⟩:=st
  exact⟨o,e,λv z=>by rw[d] at z; cases z⟩
 keep:=λi h h' st k=>by
  obtain⟨o,e,r⟩:=st
  exact⟨o,k it (by simp) o e,r⟩
 item:=by
  intro X hP hw hK hc i pins s σ H E I hf st hg
  subst hP hw hK
  obtain⟨f0,f1,f2,f3,f4,f5⟩:=hf it (by simp)
  have hi:i < x.cps.size:=hg
  refine wi X.A s i x.cps[i] _ _ st (kS hi) λh' st' sb=>?_
  have I1:Inv X pins σ H { s with heap:=h',toks:=s.toks+1 }:=I.turned (λb o hb e=>(sb.2 b hb).trans e) f0 f1 f3 f4 f5
  obtain⟨o,e,ec,ed⟩:=id st'
  refine⟨_,rfl,vO (s:={ s with heap:=h',toks:=s.toks+1 }) e ec ed hty ⟨ff x i,H,I1,⟨s.toks,?_⟩,⟨rfl,rfl⟩,st',λb hb=>(hf b hb).1⟩⟩
  have:x.cps.getD i 0=x.cps[i]:=by rw[zA0,kS hi]; rfl
  rw[this]
 done:=by
  intro X hP hw hK hc i pins s σ H E I hf st hg
  subst hP hw hK
  obtain⟨f0,f1,f2,f3,f4,f5⟩:=hf it (by simp)
  have hi:x.cps.size<=i:=hg
  exact we X.A s i _ _ (I.ok.hd hc) st (zBt hi) λh' eb=>⟨rfl,I.turned (t':=s.toks) (λb o hb e=>eb b o hb e) f0 f1 f3 f4 f5⟩
 self:=λA i s Q E st h=>ws A s i Q E st h
noncomputable def Tg (tl:TE):TI:=fun σ H R=>tl σ H λx H1=>∃y,x=.str y/\R (N7 (ff y) y.cps.size) H1
theorem N8 {tg l:Expr}{tl:TE}(hl:PE X l tl):PI X tg l (Tg tl):=by
 intro pins s σ H R I h
 refine aZ (hl pins s σ H _ I h) λv s1 ⟨x,H1,I1,r1,q1⟩=>?_
 obtain⟨y,e,q⟩:=q1
 subst e
 obtain⟨t,rfl⟩:=r1
 have fin:∀(o:Obj),∀b∈[s1.heap.objs.size],iX X pins H1 b:=λo b hb=>by
  have e:b=s1.heap.objs.size:=by simpa using hb
  subst e
  exact I1.uW (x3 _) (I1.hok.fresh (x3 _))
 cases ha:y.cps.all (· < 128)
 ·refine wpAny_pyIter_wide ha ?_
  exact⟨s1.heap.objs.size,[s1.heap.objs.size],_,_,H1,rfl,I1.kept (t':=s1.toks) λb o e=>y8 _ e,
   A_ _ "str_iterator" y t (by decide) (λA s i c Q E st hx k=>wpAny_pyNext_wide_item st hx k) (λA s i Q E hh st hx k=>wpAny_pyNext_wide_end hh st hx k) (λA s i Q E st k=>wpAny_pyIter_striter_wide st k),
   ⟨_,wE _ rfl,rfl,rfl⟩,fin default,q⟩
 ·refine wpAny_pyIter_ascii ha ?_
  exact⟨s1.heap.objs.size,[s1.heap.objs.size],_,_,H1,rfl,I1.kept (t':=s1.toks) λb o e=>y8 _ e,
   A_ _ "str_ascii_iterator" y t (by decide) (λA s i c Q E st hx k=>wpAny_pyNext_ascii_item st hx k) (λA s i Q E hh st hx k=>wpAny_pyNext_ascii_end hh st hx k) (λA s i Q E st k=>wpAny_pyIter_striter_ascii st k),
   ⟨_,wE _ rfl,rfl,rfl⟩,fin default,q⟩
noncomputable def jB (x:Str):Str:=⟨x.cps.toList.reverse.toArray⟩
theorem ER (x:Str):bV x none none (some (-1))=jB x:=by
 unfold bV jB
 rw[xL (by intro h; simp at h)]
 have e:=A9 x.cps.toList
 have e2:strSliceIndices none none ((some (-1:Int)).getD 1) x.length=sliceRange ((x.cps.toList.length:Int) - 1) (-1) (-1):=by
  unfold strSliceIndices
  simp [Str.length]
 rw[e2]
 have e3:((sliceRange ((x.cps.toList.length:Int) - 1) (-1) (-1)).filterMap (x.cps[·]?))=x.cps.toList.reverse:=by
  rw[←e]
  simp
 rw[e3]
end
theorem bR.obj {P:Program}{w:World}{H:Hp}{h:Heap}{a:Addr}{o:HO}(x:bR P w H h a o):∃ob,h.get? a=some ob:=by
 cases o with
 | lst xs=>obtain⟨_,_,_,_,e⟩:=x; exact⟨_,e⟩
 | tup xs=>obtain⟨_,_,_,ob,e,_⟩:=x; exact⟨_,e⟩
 | dK kvs=>obtain⟨_,_,_,_,o,_,_,e,_⟩:=x; exact⟨_,e⟩
 | dT kvs=>obtain⟨_,_,_,_,o,_,_,e,_⟩:=x; exact⟨_,e⟩
 | set S n=>obtain⟨o,_,_,_,e,_⟩:=x; exact⟨_,e⟩
 | ins C dx fs=>obtain⟨_,_,_,e,_⟩:=x; exact⟨_,e⟩
 | own y=>exact x
 | xd fs=>obtain⟨_,⟨_,_,_,e,_⟩,_⟩:=x; exact⟨_,e⟩
 | J7 lo hi=>obtain⟨_,_,_,e⟩:=x; exact⟨_,e⟩
 | rm ob u=>obtain⟨e,_⟩:=x; exact⟨_,e⟩
 | yL ps=>exact⟨_,(show h.get? a=some _ from x)⟩
 | met f y=>exact⟨_,(show h.get? a=some _ from x)⟩
 | ext φ=>obtain⟨_,e,_⟩:=x; exact e
section
variable {P:Program}{w:World}{outer:List Env}{H H':Hp}{s s':Shared}{a:Addr}{cls a0:Value}{B h5:Heap}
end
section
variable {X:Cx}{pins:zzC}{σ:St}{H H':Hp}{s s':Shared}{a:Addr}{cls a0:Value}{B:Heap}{M:Model}{E:zzE}{Q:Unit->Shared->Prop}
end
section
variable {X:Cx}{E E':XK}{x:Str}{C:Addr}{e₀:Expr}{rest:List Expr}{ta:TA}{np cpos pos:Pos}
end
section
variable {X:Cx}{pins:zzC}{σ:St}{H:Hp}{s:Shared}{E:zzE}{a:Addr}
end
section
variable {X:Cx}{QC:Value}{x n:Str}{i:Nat}{body suite:List Stmt}{b₀:Stmt}{tb:XK->TS}{ts:TS}{np hpos pos:Pos}
end
inductive Dt where
 | bq | bl (b:Bool) | int (i:Int) | str (x:Str) | lst (ds:List Dt) | tup (ds:List Dt)
mutual
noncomputable def Rep (K:zzA)(H:Hp):Dt->V->Prop
 | .bq,v=>v=.bq
 | .bl b,v=>v=.bl b
 | .int i,v=>v=.int i
 | .str x,v=>v=.str x
 | .lst ds,v=>∃a xs,v=.ref a/\aD K H a xs/\aF K H ds xs
 | .tup ds,v=>∃a xs,v=.ref a/\aJ K H a xs/\aF K H ds xs
noncomputable def aF (K:zzA)(H:Hp):List Dt->List V->Prop
 | [],xs=>xs=[]
 | d::ds,xs=>∃x r,xs=x::r/\Rep K H d x/\aF K H ds r
end
mutual
theorem Rep.same {K:zzA}{H H':Hp}(e:ai H H'):∀{d:Dt} {v:V},Rep K H d v->Rep K H' d v
 | .bq,_,h=>by unfold Rep at h ⊢; exact h
 | .bl _,_,h=>by unfold Rep at h ⊢; exact h
 | .int _,_,h=>by unfold Rep at h ⊢; exact h
 | .str _,_,h=>by unfold Rep at h ⊢; exact h
 | .lst ds,_,h=>by
  unfold Rep at h ⊢
  obtain⟨a,xs,rfl,q,r⟩:=h
  exact⟨a,xs,rfl,e.seq q,aF.same e r⟩
 | .tup ds,_,h=>by
  unfold Rep at h ⊢
  obtain⟨a,xs,rfl,q,r⟩:=h
  exact⟨a,xs,rfl,e.tup q,aF.same e r⟩
theorem aF.same {K:zzA}{H H':Hp}(e:ai H H'):∀{ds:List Dt} {vs:List V},aF K H ds vs->aF K H' ds vs
 | [],_,h=>by unfold aF at h ⊢; exact h
 | d::ds,_,h=>by
  unfold aF at h ⊢
  obtain⟨x,r,rfl,q,t⟩:=h
  exact⟨x,r,rfl,Rep.same e q,aF.same e t⟩
end
theorem aF.length {K:zzA}{H:Hp}:∀{ds:List Dt} {vs:List V},aF K H ds vs->vs.length=ds.length
 | [],_,h=>by unfold aF at h; rw[h]; rfl
 | d::ds,_,h=>by
  unfold aF at h
  obtain⟨x,r,rfl,q,t⟩:=h
  rw[zBq,zBq,aF.length t]
section
variable {X:Cx}{pins:zzC}{σ:St}{H:Hp}{s:Shared}
end
section
variable {X:Cx}
end
section
variable {X:Cx}
end
section
open PySem.W
variable {K:Frag}{prog:Program}{w:World}{A:Around}{E:zzE}{h:Heap}{g:Array GenState}{d:Drawn}{t:Nat}{os:OsState}{a C:Addr}{o:Obj}
end
section
variable {X:Cx}
end
structure Def (K:zzA)(mg:Str->Option Value)(x:Str)(st:Stmt)(f:Addr)(fd:FuncData)(ps:List Str):Prop where
 fn:pA K x x st f fd
 bd:Binds K fd ps []
 mg:mg x=some (.ref f)
section
variable {X:Cx}{CX:o9}{k:Nat}{f:Addr}{fd:FuncData}{ps:List Str}{sp:Sp}{E:XK}{x:Str}{st:Stmt}{p pos:Pos}{e:Expr}{es:List Expr}{t:TA}
theorem aq (D:Def X.K X.mg x st f fd ps)(F:bx X.prog X.w X.K X.mg X.base CX k f fd ps sp)(hr:fM k X.A)(hx:Passes CX X E)(ha:PA X (e::es) t)(hg:Gl X x:=by rfl)
  (hdb:(x == ("__debug__":Str))=false:=by decide) (he:starEach (e::es) X.env=(false,eval e X.env)::starEach es X.env:=by rfl) (hpl:(backTo pos (starEach es X.env)).any (·.1)=false:=by rfl) :
  PE X (.Call (.Name x p) (e::es) [] pos) (gS sp [] E t):=LL F hr hg D.mg D.fn.kp D.bd .nil hx ha hdb he hpl
end
section
variable {K:zzA}{ix:List (Option Nat)}{te:TE}{σ:St}{H1:Hp}{Q:Addr->Hp->Prop}
theorem Ba {fv:Nat->V}{n i₀:Nat}(f:Nat->V)(hz:n<=sizeLine)
  (hs:∀(i:Nat) (H:Hp) (R:VK),i < n->ai H1 H->(∀H6,ai H H6->R (f i) H6)->te ((cN ix σ).set i₀ (some (fv i))) H R)
  (hd:∀D H,H1 D=none->ai H1 H->H D=some (.lst ((range n).map f))->Q D H):dP (N7 fv n) ix (bC i₀) kq te σ H1 Q:=by
 intro D hD
 refine⟨λi m ys H=>m=n - i/\i<=n/\ai H1 H/\ys=(range i).map f,⟨n,by simp,zAw _,ai.new hD _,by simp⟩,?_⟩
 rintro i m ys H ⟨rfl,hi,sm,p⟩ aV
 by_cases hlt:i < n
 ·refine .inr ⟨hlt,λx H3 y=>?_⟩
  obtain⟨e,y⟩:=y
  subst e; subst y
  show te ((cN ix σ).set i₀ (some (fv i))) _ _
  refine hs i _ _ hlt sm λH6 r1=>?_
  refine⟨r1 _ _ aV,?_,n - (i+1),by omega,rfl,hlt,(sm.trans r1).put hD _,?_⟩
  ·rw[p,y3,zBd]; omega
  ·rw[p,zBp,v4]; rfl
 ·have e:i=n:=by omega
  subst e
  exact .inl ⟨x3 _,hd D H hD sm (by rw[aV,p])⟩
end
noncomputable def Gv (t:TE)(σ:St)(H:Hp)(v:V):Prop:=∀R:VK,(∀H',ai H H'->R v H')->t σ H R
noncomputable def Gt (t:TT)(σ:St)(H:Hp)(b:Bool):Prop:=∀R:Bool->Hp->Prop,(∀H',ai H H'->R b H')->t σ H R
noncomputable def Ga (t:TA)(σ:St)(H:Hp)(vs:List V):Prop:=∀R:List V->Hp->Prop,(∀H',ai H H'->R vs H')->t σ H R
section
variable {σ:St}{H:Hp}{ta tb tc te:TE}{t u:TT}{tt:TA}{v x y:V}{p q b:Bool}{i j k:Int}
theorem af {n:Nat}(h:σ[n]?=some (some v)):Gv (fB n) σ H v:=λR r=>⟨v,h,r H (ai.refl H)⟩
theorem ao:Gv (tC v) σ H v:=λR r=>r H (ai.refl H)
theorem dh {R:VK}(h:Gv te σ H v)(r:∀H',ai H H'->R v H'):te σ H R:=h R r
theorem bA (h:Gv te σ H x)(e:x=y):Gv te σ H y:=e ▸ h
theorem gT (h:Gt t σ H p)(e:p=q):Gt t σ H q:=e ▸ h
theorem Bb (h:Gt t σ H b):Gt (Nk t) σ H (!b):=λR r=>h _ λH' s=>r H' s
theorem Bc (h:Gt t σ H p)(g:p=true->∀H',ai H H'->Gt u σ H' q):Gt (Nj t u) σ H (p&&q):=λR r=>h _ λH' s=>by
 cases p with
 | true=>rw[x4 rfl]; exact g rfl H' s _ λH2 s2=>r H2 (s.trans s2)
 | false=>rw[xL zAf]; exact r H' s
theorem Kr (h:Gt t σ H p)(g:p=false->∀H',ai H H'->Gt u σ H' q):Gt (Rt t u) σ H (p||q):=λR r=>h _ λH' s=>by
 cases p with
 | true=>rw[x4 rfl]; exact r H' s
 | false=>rw[xL zAf]; exact g rfl H' s _ λH2 s2=>r H2 (s.trans s2)
theorem dZ (h:Gv te σ H (.bl b)):Gt (Kl te) σ H b:=λR r=>h _ λH' s=>⟨b,rfl,r H' s⟩
theorem iH (h:Gv te σ H (.bl b)):Gt (tB te) σ H b:=λR r=>h _ λH' s=>⟨b,rfl,r H' s⟩
theorem Be (h:Gv ta σ H (.bl p))(g:p=true->∀H',ai H H'->Gv tb σ H' (.bl q)):Gv (Ke ta tb) σ H (.bl (p&&q)):=λR r=>h _ λH' s=>by
 refine⟨p,rfl,?_⟩
 cases p with
 | true=>rw[x4 rfl]; exact g rfl H' s _ λH2 s2=>r H2 (s.trans s2)
 | false=>rw[xL zAf]; exact r H' s
theorem QK (h:Gv ta σ H (.bl p))(g:p=false->∀H',ai H H'->Gv tb σ H' (.bl q)):Gv (Nl ta tb) σ H (.bl (p||q)):=λR r=>h _ λH' s=>by
 refine⟨p,rfl,?_⟩
 cases p with
 | true=>rw[x4 rfl]; exact r H' s
 | false=>rw[xL zAf]; exact g rfl H' s _ λH2 s2=>r H2 (s.trans s2)
theorem aS {f:Int->Int->V}(h:Gv ta σ H (.int i))(g:∀H',ai H H'->Gv tb σ H' (.int j)):Gv (di (qy f) ta tb) σ H (f i j):=λR r=>h _ λH' s=>g H' s _ λH2 s2=>⟨i,j,rfl,rfl,r H2 (s.trans s2)⟩
theorem aW {C:Int->Int->Prop}{f:Int->Int->V}(h:Gv ta σ H (.int i))(g:∀H',ai H H'->Gv tb σ H' (.int j))(hc:C i j):Gv (di (rI C f) ta tb) σ H (f i j):=λR r=>h _ λH' s=>g H' s _ λH2 s2=>⟨i,j,rfl,rfl,hc,r H2 (s.trans s2)⟩
theorem i7 (h:Gv ta σ H x)(g:∀H',ai H H'->Gv tb σ H' y)(hs:AR x y=true):Gv (di Nx ta tb) σ H (.bl (decide (x=y))):=λR r=>h _ λH' s=>g H' s _ λH2 s2=>⟨hs,r H2 (s.trans s2)⟩
theorem N9 (h:Gv ta σ H x)(g:∀H',ai H H'->Gv tb σ H' y)(hs:AR x y=true):Gv (di Rv ta tb) σ H (.bl (!decide (x=y))):=λR r=>h _ λH' s=>g H' s _ λH2 s2=>⟨hs,r H2 (s.trans s2)⟩
theorem Jb {f g:Int->Int->Bool}(h1:Gv ta σ H (.int i))(h2:∀H',ai H H'->Gv tb σ H' (.int j))(h3:∀H',ai H H'->Gv tc σ H' (.int k)):Gv (F8 (qy λi j=>.bl (f i j)) (qy λi j=>.bl (g i j)) ta tb tc) σ H (.bl (f i j&&g j k)):=
 λR r=>h1 _ λH1 s1=>h2 H1 s1 _ λH2 s2=>⟨i,j,rfl,rfl,f i j,rfl,by
  cases e:f i j with
  | true=>rw[x4 rfl]; rw[e] at r; exact h3 H2 (s1.trans s2) _ λH3 s3=>⟨j,k,rfl,rfl,by rw[Bool.true_and] at r; exact r H3 ((s1.trans s2).trans s3)⟩
  | false=>rw[xL zAf]; rw[e,Bool.false_and] at r; exact r H2 (s1.trans s2)⟩
theorem N_:Ga cM σ H []:=λR r=>r H (ai.refl H)
theorem au {vs:List V}(h:Gv te σ H v)(g:∀H',ai H H'->Ga tt σ H' vs):Ga (bE te tt) σ H (v::vs):=λR r=>h _ λH' s=>g H' s _ λH2 s2=>r H2 (s.trans s2)
theorem aC (h:Gv te σ H v):Ga (bE te cM) σ H [v]:=au h λ_ _=>N_
theorem Bf {K:zzA}{n:Nat}(h:Ga tt σ H [v])(hl:∀H',ai H H'->rG K v H' n):Gv (qz (λxs H Q=>∃x n,xs=[x]/\rG K x H n/\Q (.int n) H) tt) σ H (.int n):=λR r=>h _ λH' s=>⟨v,n,rfl,hl H' s,r H' s⟩
theorem bZ {K:zzA}{y:Str}(h:Ga tt σ H [.str y])(hz:y.length<=sizeLine):Gv (qz (λxs H Q=>∃x n,xs=[x]/\rG K x H n/\Q (.int n) H) tt) σ H (.int y.length):=Bf h λ_ _=>⟨hz,rfl⟩
theorem jK {K:zzA}{a:Addr}{xs:List V}(h:Ga tt σ H [.ref a])(hq:aD K H a xs):Gv (qz (λxs H Q=>∃x n,xs=[x]/\rG K x H n/\Q (.int n) H) tt) σ H (.int xs.length):=Bf h λ_ s=>.inl ⟨xs,s.seq hq,rfl⟩
theorem m_ {α:Type}(x:α)(xs:List α):iR (x::xs) 0=some x:=by
 have:=aG (xs:=x::xs) (j:=0) (v:=x) rfl
 simpa using this
theorem iI {sp:Sp}{E:XK}{vs:List V}(h:Ga tt σ H vs)(hc:∀H' (R:VK),ai H H'->(∀H2,ai H' H2->R v H2)->sp (vs++[]) H' R E):Gv (gS sp [] E tt) σ H v:=λR r=>h _ λH' s=>hc H' R s λH2 s2=>r H2 (s.trans s2)
theorem fh {K:zzA}{a:Addr}{xs:List V}(h:Gv ta σ H (.ref a))(g:∀H',ai H H'->Gv tb σ H' (.int i))(hq:aD K H a xs)(hi:iR xs i=some v):Gv (di (oY K) ta tb) σ H v:=λR r=>h _ λH' s=>g H' s _ λH2 s2=>⟨a,xs,i,v,rfl,rfl,(s.trans s2).seq hq,hi,r H2 (s.trans s2)⟩
theorem lu {z:Str}{c:Nat}(h:Gv ta σ H (.str z))(g:∀H',ai H H'->Gv tb σ H' (.int i))(hz:z.length<=sizeLine)(hi:iR z.cps.toList i=some c):Gv (di NI ta tb) σ H (.str ⟨#[c]⟩):=λR r=>h _ λH' s=>g H' s _ λH2 s2=>⟨z,i,c,rfl,rfl,hz,hi,r H2 (s.trans s2)⟩
theorem tP {x y:Str}(h:Gv ta σ H (.str x))(g:∀H',ai H H'->Gv tb σ H' (.str y))(hz:x.length+y.length<=sizeLine):Gv (di (λx y H Q=>∃i j,x=.str i/\y=.str j/\i.length+j.length<=sizeLine/\Q (.str (i++j)) H) ta tb) σ H (.str (x++y)):=λR r=>h _ λH' s=>g H' s _ λH2 s2=>⟨x,y,rfl,rfl,hz,r H2 (s.trans s2)⟩
theorem Ks (h:Gt t σ H p)(g1:p=true->∀H',ai H H'->Gv ta σ H' v)(g2:p=false->∀H',ai H H'->Gv tb σ H' v):Gv (Nm t ta tb) σ H v:=λR r=>h _ λH' s=>by
 cases p with
 | true=>rw[x4 rfl]; exact g1 rfl H' s _ λH2 s2=>r H2 (s.trans s2)
 | false=>rw[xL zAf]; exact g2 rfl H' s _ λH2 s2=>r H2 (s.trans s2)
variable {D:Ends}{ts us:TS}{n:Nat}
theorem Bg (h:ts { D with nx:=us D } σ H):iW ts us D σ H:=h
theorem i8 (h:Gt t σ H b)(k1:b=true->∀H',ai H H'->ts D σ H')(k2:b=false->∀H',ai H H'->us D σ H'):Ep t ts us D σ H:=h _ λH' s=>by
 cases b with
 | true=>rw[x4 rfl]; exact k1 rfl H' s
 | false=>rw[xL zAf]; exact k2 rfl H' s
theorem Oa (h:Gv te σ H v)(k:∀H',ai H H'->D.nx (σ.set n (some v)) H'):AL te (bC n) D σ H:=h _ k
theorem dJ (h:Gv te σ H v)(k:∀H',ai H H'->D.rt v H'):IC te D σ H:=h _ k
variable {ix:List (Option Nat)}{g:TG}{tf:TT}{R:VK}
theorem pF {jj:Int}(h:Ga tt σ H [.int jj])(h1:-(2 ^ 62)<=jj)(h2:jj < 2 ^ 62)(k:∀H',ai H H'->dP (qx 0 jj.toNat) ix g tf te σ H' λD' H2=>R (.ref D') H2):jR (vP tt) ix g tf te σ H R:=h _ λH' s=>⟨jj,rfl,h1,h2,k H' s⟩
theorem jS {K:zzA}{a:Addr}{xs:List V}(h:Gv ta σ H (.ref a))(hq:aD K H a xs)(k:∀H',ai H H'->aD K H' a xs->dP (rB K a) ix g tf te σ H' λD' H2=>R (.ref D') H2):jR (jO K ta) ix g tf te σ H R:=h _ λH' s=>⟨a,rfl,⟨xs,s.seq hq⟩,k H' s (s.seq hq)⟩
theorem b9 (h:te σ H D.rt):IC te D σ H:=h
theorem Gx {jj:Int}(h:Ga tt σ H [.int jj])(h1:-(2 ^ 62)<=jj)(h2:jj < 2 ^ 62)(k:∀H',ai H H'->dP (qx 0 jj.toNat) ix g tf te σ H' λD' H2=>D.nx (σ.set n (some (.ref D'))) H2):m9 n (vP tt) ix g tf te D σ H:=h _ λH' s=>⟨jj,rfl,h1,h2,k H' s⟩
theorem Ob {K:zzA}{a:Addr}{xs:List V}(h:Gv ta σ H (.ref a))(hq:aD K H a xs)(k:∀H',ai H H'->aD K H' a xs->dP (rB K a) ix g tf te σ H' λD' H2=>D.nx (σ.set n (some (.ref D'))) H2):m9 n (jO K ta) ix g tf te D σ H:=h _ λH' s=>⟨a,rfl,⟨xs,s.seq hq⟩,k H' s (s.seq hq)⟩
theorem bL {sp:Sp}{E:XK}{vs:List V}(h:Ga tt σ H vs)(k:∀H',ai H H'->sp (vs++[]) H' R E):gS sp [] E tt σ H R:=h _ λH' s=>k H' s
theorem xP (h:te σ H λx H1=>D.nx (σ.set n (some x)) H1):AL te (bC n) D σ H:=h
theorem jC (h:te σ H λ_ H1=>D.nx σ H1):tD te D σ H:=h
theorem wg (h:Gt t σ H b)(k1:b=true->∀H',ai H H'->ts { D with nx:=us D } σ H')(k2:b=false->∀H',ai H H'->us D σ H'):iW (Ep t ts Eo) us D σ H:=i8 h k1 k2
theorem dM (h:Gv te σ H v)(k:∀H',ai H H'->us D (σ.set n (some v)) H'):iW (AL te (bC n)) us D σ H:=h _ k
theorem bf (h:te σ H λx H1=>us D (σ.set n (some x)) H1):iW (AL te (bC n)) us D σ H:=h
theorem d8 (h:te σ H λ_ H1=>us D σ H1):iW (tD te) us D σ H:=h
end
section
variable {X:Cx}(K:zzA)
theorem cC (h:X.K=K:=by rfl):dg X (.builtin "len") (λxs H Q=>∃x n,xs=[x]/\rG K x H n/\Q (.int n) H):=h ▸ IK
theorem xQ (h:X.K=K:=by rfl)(hc:X.calm=true:=by rfl):dg X (.builtin "all") (λxs H Q=>∃(a:Addr) (bs:List Bool),xs=[.ref a]/\aD K H a (bs.map V.bl)/\Q (.bl (bs.all λb=>b)) H):=by
 subst h
 intro pins s σ H xs us Q I r q
 exact Ja pins s σ H xs us Q I r ⟨hc,q⟩
theorem QL (h:X.K=K:=by rfl):dg X (.type "list") (λxs H Q=>∃p ys,xs=[.ref p]/\(aD K H p ys\/aJ K H p ys)/\∀l,H l=none->Q (.ref l) (upd H l (.lst ys))):=h ▸ AY
theorem dF (h:X.K=K:=by rfl):Dj X (oY K):=h ▸ LQ
theorem bg (h:X.K=K:=by rfl):Dj X (xN K):=h ▸ NJ
theorem Oc (h:X.K=K:=by rfl):Di X (EF K):=h ▸ LR
theorem Od (h:X.K=K:=by rfl):Di X (EE K):=h ▸ NG
theorem wj (h:X.K=K:=by rfl):Km X "str.join" (rJoin K):=h ▸ LY
variable {tg l:Expr}{tl ta te to:TE}{t:TA}
theorem bN (hl:PE X l tl)(h:X.K=K:=by rfl):PI X tg l (jO K tl):=h ▸ LJ hl
theorem Aj (hl:PE X l tl)(h:X.K=K:=by rfl):PI X tg l (Eu K tl):=h ▸ Nr hl
theorem wk {a:Expr}(ha:PE X a ta)(he:∀whole,isTrue a X.env whole=(do let v ←whole; standAt a.pos; holding [v] (truthy v)))(h:X.K=K:=by rfl) :
  PT X a (fun σ H Q=>ta σ H λx H'=>∃k,xH K x H' k/\Q k H'):=h ▸ IJ ha he
theorem wm {es:List Expr}{k:Nat}{t:yO}{n:Nat}{pos:Pos}(h1:F3 X es t)(h:X.K=K:=by rfl)(hc:X.calm=true:=by rfl)
  (hn:(assignEach es X.env).length=n:=by rfl) (hst:(assignEach es X.env).findIdx? (·.1)=none:=by rfl):PG X (.Tuple es k pos) (Er K n t):=h ▸ Np hc h1 hn hst
theorem Th {e:Expr}{j:Nat}{pos p2 p3 p4:Pos}(he:PE X e te)(h:X.K=K:=by rfl):PE X (.Subscript e (.Slice none none (some (.UnaryOp .USub (.Constant (.int 1) j p4) p3)) p2) pos) (N5 K te):=h ▸ N6 he
theorem jT {o e:Expr}{es:List Expr}{name:Str}{apos cpos:Pos}{T id:String}{r:V->List V->Hp->VK->Prop}(pa:PlainAttrs T)(slot:Slot T name id)(hty:typeOf (.builtin id)=pure (.type "method_descriptor"))(hm:Km X id r)(ho:PE X o to)(ha:PA X (e::es) t)(h:X.K=K:=by rfl)
  (hbase:attributeBase o name X.env (eval o X.env)=eval o X.env:=by rfl)
  (hfew:((backTo cpos (starEach (e::es) X.env)).all (λx=>!x.1)&&(backToKw cpos (keywordEach [] X.env)).all (λx=>x.1.isSome)
   &&decide ((e::es).length+([]:List Keyword).length+(if ([]:List Keyword).isEmpty then 0 else 1) < 30))=true:=by rfl)
  (hline:(apos.endLine == cpos.line)=true:=by rfl) (hs:starEach (e::es) X.env=(false,eval e X.env)::starEach es X.env:=by rfl) (hplain:(backTo cpos (starEach es X.env)).any (·.1)=false:=by rfl) :
  PE X (.Call (.Attribute o name apos) (e::es) [] cpos) (yV K T r to t):=h ▸ QJ pa slot hty hm ho ha hbase hfew hline hs hplain
end
noncomputable def Gn (t:TE)(σ:St)(H:Hp)(xs:List V):Prop:=∀R:VK,(∀p H',H p=none->ai H H'->H' p=some (.lst xs)->R (.ref p) H')->t σ H R
section
variable {σ:St}{H:Hp}{ta tb te:TE}{tt:TA}{xs ys:List V}{K:zzA}{a:Addr}{lo hi:Option Int}
theorem QM {R:VK}(h:Gn te σ H xs)(r:∀p H',H p=none->ai H H'->H' p=some (.lst xs)->R (.ref p) H'):te σ H R:=h R r
theorem ng {r:List V->Hp->VK->Prop}{R:VK}(h:te σ H λx H1=>r [x] H1 R):qz r (bE te cM) σ H R:=h
theorem ES (h:Gn te σ H xs)(e:xs=ys):Gn te σ H ys:=e ▸ h
theorem ni (h:Ga tt σ H xs)(hz:xs.length<=sizeLine):Gn (AS tt) σ H xs:=λR r=>h _ λH' s=>⟨hz,λp hp=>r p _ (s.free hp) (s.trans (ai.new hp _)) aA⟩
theorem Dp (ha:Gn ta σ H xs)(hb:∀H',ai H H'->Gn tb σ H' ys)(hz:xs.length+ys.length<=sizeLine):Gn (di EI ta tb) σ H (xs++ys):=
 λR r=>ha _ λa H1 ha s1 hl=>hb H1 s1 _ λp H2 hp s2 hpl=>⟨a,p,xs,ys,rfl,rfl,s2 _ _ hl,hpl,hz,λq hq=>r q _ ((s1.trans s2).free hq) ((s1.trans s2).trans (ai.new hq _)) aA⟩
theorem L3 {i:Int}(ha:Gv ta σ H (.ref a))(hq:aD K H a xs)(hb:∀H',ai H H'->Gv tb σ H' (.int i)):Gn (AV (EF K) ta (nS tb) mQ) σ H (gM xs (some i) none):=
 λR r=>ha _ λH1 s1=>hb H1 s1 _ λH2 s2=>⟨i,rfl,a,xs,rfl,(s1.trans s2).seq hq,λq hq'=>r q _ ((s1.trans s2).free hq') ((s1.trans s2).trans (ai.new hq' _)) aA⟩
theorem L_ {i:Int}(ha:Gv ta σ H (.ref a))(hq:aD K H a xs)(hb:∀H',ai H H'->Gv tb σ H' (.int i)):Gn (AV (EF K) ta mQ (nS tb)) σ H (gM xs none (some i)):=
 λR r=>ha _ λH1 s1=>hb H1 s1 _ λH2 s2=>⟨i,rfl,a,xs,rfl,(s1.trans s2).seq hq,λq hq'=>r q _ ((s1.trans s2).free hq') ((s1.trans s2).trans (ai.new hq' _)) aA⟩
theorem Jc {i:Int}{z:Str}(ha:Gv ta σ H (.str z))(hz:z.length<=sizeLine)(hb:∀H',ai H H'->Gv tb σ H' (.int i)):Gv (AV I0 ta (nS tb) mQ) σ H (.str (bV z (some i) none none)):=λR r=>ha _ λH1 s1=>hb H1 s1 _ λH2 s2=>⟨i,rfl,z,rfl,hz,r H2 (s1.trans s2)⟩
theorem Jd {i:Int}{z:Str}(ha:Gv ta σ H (.str z))(hz:z.length<=sizeLine)(hb:∀H',ai H H'->Gv tb σ H' (.int i)):Gv (AV I0 ta mQ (nS tb)) σ H (.str (bV z none (some i) none)):=λR r=>ha _ λH1 s1=>hb H1 s1 _ λH2 s2=>⟨i,rfl,z,rfl,hz,r H2 (s1.trans s2)⟩
theorem wo {i:Int}(ha:Gv ta σ H (.int i)):Gv (AQ (rU λi=>.int (-i)) ta) σ H (.int (-i)):=λR r=>ha _ λH1 s1=>⟨i,rfl,r H1 s1⟩
theorem Oe {i:Int}{v:V}(ha:Gn ta σ H xs)(hb:∀H',ai H H'->Gv tb σ H' (.int i))(hi:iR xs i=some v):Gv (di (oY K) ta tb) σ H v:=
 λR r=>ha _ λa H1 ha s1 hl=>hb H1 s1 _ λH2 s2=>⟨a,xs,i,v,rfl,rfl,aD.of (s2 _ _ hl),hi,r H2 (s1.trans s2)⟩
end
theorem wu {prog:Program}{w:World}:∀{ks:List Int} {us:List Value},Vals (ks.map V.int) us->ItemsAre (intKind prog w) ks us
 | [],_,.nil=>.nil
 | k::ks,u::us,.cons r t=>.cons (by
   obtain⟨tk,rfl⟩:=(show ∃tk,u=Value.int k tk from r)
   exact intKind_is _ _ _ _) (wu t)
theorem Gy {prog:Program}{w:World}:TB.tw (intKind prog w):=λn k v h=>by
 obtain⟨t,rfl⟩:=TB.pB h
 cases n <;> rfl
section
variable {X:Cx}{pins:zzC}{σ:St}{H:Hp}{s:Shared}
theorem Inv.key (I:Inv X pins σ H s){a:Addr}{ks:List Int}(h:aJ X.K H a (ks.map V.int)):IsTupleKey (intKind X.prog X.w) s.heap ks a:=by
 obtain⟨its,r,⟨o,ho,hc,n,hd⟩,_⟩:=I.tuple h
 exact⟨o,its.toArray,n,ho,hc,hd,wu r⟩
noncomputable def u9 (prog:Program)(w:World)(p:Addr)(ps:zzD):HO:=.ext λh=>TB.eO (intKind prog w) h p ps
abbrev rv (p:Addr × List Int):V:=.ref p.1
theorem nV:∀{ps:zzD} {us:List Value},Vals (ps.map rv) us->us=ps.map λp=>Value.ref p.1
 | [],_,.nil=>rfl
 | p::ps,u::us,.cons r t=>by
  have e:u=.ref p.1:=r
  rw[e,nV t]
  rfl
theorem nW:∀ps:zzD,Vals (ps.map rv) (ps.map TB.rf)
 | []=>.nil
 | p::ps=>.cons (show RelV (.ref p.1) (.ref p.1) from rfl) (nW ps)
noncomputable def Ti (X:Cx)(K:zzA)(prog:Program)(w:World):List V->Hp->VK->Prop:=λxs H Q=>∃(l:Addr) (ps:zzD),xs=[.ref l]/\aD K H l (ps.map rv)/\(∀p∈ps,aJ K H p.1 (p.2.map V.int))/\TB.Ay ps 300/\
 ∀(S:Addr) (qs:zzD),H S=none->(∀p∈qs,p∈ps)->(∀p∈ps,∃q∈qs,q.2=p.2)->(qs.map (·.2)).Nodup->Q (.ref S) (upd H S (u9 prog w S qs))
theorem Gz (hc:X.calm=true)(hu:X.A.units+64 < cLine):dg X (.type "set") (Ti X X.K X.prog X.w):=by
 intro pins s σ H xs us Q I r h
 obtain⟨l,ps,rfl,hq,ht,few,q⟩:=h
 obtain⟨u,rfl,ru⟩:=vals1 r
 cases ru
 obtain⟨its,r',pl,hz⟩:=I.list hq
 rw[nV r'] at pl
 refine TB.Iv (knd:=intKind X.prog X.w) (xs:=ps) (I.ok.hd hc) pl.isList (λp hp=>I.key (ht p hp)) Gy (by omega) few λh' tk qs hS m1 m2 kp=>?_
 have nd:(qs.map (·.2)).Nodup:=let ⟨_,_,_,_,_,_,_,_,_,nd⟩:=hS; nd
 have there:∃o,h'.get? s.heap.objs.size=some o:=let ⟨o,_,_,ho,_⟩:=hS; ⟨o,ho⟩
 exact⟨.ref s.heap.objs.size,_,I.laid (t':=tk) kp (x3 _) (show bR X.prog X.w _ h' _ (u9 X.prog X.w s.heap.objs.size qs) from ⟨hS,there,λh1 h2 x k=>x.at_ k⟩),rfl,q _ qs (I.hok.fresh (x3 _)) m1 m2 nd⟩
noncomputable def Dq (K:zzA)(prog:Program)(w:World):List V->Hp->VK->Prop:=λxs H Q=>∃(S:Addr) (ps:zzD),xs=[.ref S]/\H S=some (u9 prog w S ps)/\(∀p∈ps,aJ K H p.1 (p.2.map V.int))/\(∀p∈ps,p.2≠[])/\ps.length < 100000/\
 ∀(l:Addr) (qs:zzD),H l=none->qs.Perm ps->qs.Pairwise (λp q=>HT.lexLt p.2 q.2=true)->Q (.ref l) (upd H l (.lst (qs.map rv)))
theorem Bh (hc:X.calm=true):dg X (.builtin "sorted") (Dq X.K X.prog X.w):=by
 intro pins s σ H xs us Q I r h
 obtain⟨S,ps,rfl,hS,ht,hne,h64,q⟩:=h
 obtain⟨u,rfl,ru⟩:=vals1 r
 cases ru
 obtain⟨hS',_⟩:=(show bR X.prog X.w H s.heap S (u9 X.prog X.w S ps) from I.hok S _ hS)
 refine TB.v5 (ps:=ps) (I.ok.hd hc) hS' (λp hp=>I.key (ht p hp)) hne h64 λh' tk l qs c kp hle hl pm pw=>?_
 have hz:(qs.map rv).length<=sizeLine:=by
  rw[y3,pm.length_eq,zAk]
  omega
 exact⟨.ref l,_,I.laid (t':=tk) kp hle (show bR X.prog X.w _ h' _ (.lst (qs.map rv)) from ⟨hz,qs.map TB.rf,c,nW qs,hl⟩),rfl,q _ qs (I.hok.fresh hle) pm pw⟩
end
mutual
noncomputable def Dt.py:Dt->PyData
 | .bq=>.none
 | .bl b=>.bool b
 | .int i=>.int i
 | .str x=>.str x
 | .lst ds=>.list (Dt.d9 ds)
 | .tup ds=>.tuple (Dt.d9 ds)
noncomputable def Dt.d9:List Dt->List PyData
 | []=>[]
 | d::ds=>Dt.py d::Dt.d9 ds
end
section
variable {X:Cx}{pins:zzC}{σ:St}{H:Hp}{s:Shared}
mutual
theorem jD (I:Inv X pins σ H s):∀(d:Dt) {x:V} {u:Value},Rep X.K H d x->RelV x u->∃as,Reads s.heap u d.py as
 | .bq,x,u,h,r=>by unfold Rep at h; subst h; cases r; exact⟨_,.none⟩
 | .bl b,x,u,h,r=>by unfold Rep at h; subst h; cases r; exact⟨_,.bool b⟩
 | .int i,x,u,h,r=>by unfold Rep at h; subst h; obtain⟨t,rfl⟩:=r; exact⟨_,.int i t⟩
 | .str z,x,u,h,r=>by unfold Rep at h; subst h; obtain⟨t,rfl⟩:=r; exact⟨_,.str z t⟩
 | .lst ds,x,u,h,r=>by
  unfold Rep at h
  obtain⟨a,xs,rfl,q,rr⟩:=h
  cases r
  obtain⟨its,r1,p1,_⟩:=I.list q
  obtain⟨o,ho,hc,n,hd⟩:=p1.isList
  obtain⟨as,ra⟩:=rP I ds rr r1
  exact⟨_,.list ho hc hd (by simpa using ra)⟩
 | .tup ds,x,u,h,r=>by
  unfold Rep at h
  obtain⟨a,xs,rfl,q,rr⟩:=h
  cases r
  obtain⟨its,r1,⟨o,ho,hc,n,hd⟩,_⟩:=I.tuple q
  obtain⟨as,ra⟩:=rP I ds rr r1
  exact⟨_,.tuple ho hc hd (by simpa using ra)⟩
theorem rP (I:Inv X pins σ H s):∀(ds:List Dt) {xs:List V} {us:List Value},aF X.K H ds xs->Vals xs us->∃as,ReadsAll s.heap us (Dt.d9 ds) as
 | [],xs,us,h,r=>by unfold aF at h; subst h; cases r; exact⟨_,.nil⟩
 | d::ds,xs,us,h,r=>by
  unfold aF at h
  obtain⟨x,xr,rfl,q,t⟩:=h
  cases r with
  | cons rx Of=>
   obtain⟨as,ra⟩:=jD I d q rx
   obtain⟨bs,rb⟩:=rP I ds t Of
   exact⟨_,.cons ra rb⟩
end
noncomputable def Tj (d e:Dt):Prop:=d.py.canLay0=true/\e.py.canLay0=true/\min d.py.depth e.py.depth<=60
noncomputable def Bj (K:zzA)(neg:Bool):R2:=λx y H Q=>∃d e:Dt,Tj d e/\Rep K H d x/\Rep K H e y/\Q (.bl (neg ^^ eqv d.py e.py)) H
theorem Og (hu:X.A.units+64 < cLine):dz X (compareOp .Eq) (Bj X.K false):=by
 intro pins s σ H x y u v Q I rx ry h
 obtain⟨d,e,⟨f1,f2,f3⟩,hx,hy,q⟩:=h
 obtain⟨as,ra⟩:=jD I d hx rx
 obtain⟨bs,rb⟩:=jD I e hy ry
 rw[false_xor] at q
 exact SeqAt.rcAt_reads ra rb f1 f2 (by omega) X.prog X.w X.xe _ ⟨.bl _,H,I,rfl,q⟩
theorem Oh (hu:X.A.units+64 < cLine):dz X (compareOp .NotEq) (Bj X.K true):=by
 intro pins s σ H x y u v Q I rx ry h
 obtain⟨d,e,⟨f1,f2,f3⟩,hx,hy,q⟩:=h
 obtain⟨as,ra⟩:=jD I d hx rx
 obtain⟨bs,rb⟩:=jD I e hy ry
 rw[Bool.true_xor] at q
 exact SeqAt.rcNeAt_reads ra rb f1 f2 (by omega) X.prog X.w X.xe _ ⟨.bl _,H,I,rfl,q⟩
theorem nj:∀ns:List Int,Dt.d9 (ns.map Dt.int)=ns.map PyData.int
 | []=>rfl
 | n::ns=>by rw[zAo,zAo,←nj ns]; rfl
theorem Bk:∀ns ms:List Int,eqvAll (ns.map .int) (ms.map .int)=decide (ns=ms)
 | [],[]=>rfl
 | [],_::_=>rfl
 | _::_,[]=>rfl
 | n::ns,m::ms=>by
  rw[zAo,zAo]
  show (n == m&&eqvAll (ns.map .int) (ms.map .int))=_
  rw[Bk ns ms]
  by_cases h1:n=m <;> by_cases h2:ns=ms <;> simp [h1,h2]
theorem lay_ints:∀ns:List Int,canLayAll0 (ns.map .int)=true
 | []=>rfl
 | n::ns=>lay_ints ns
theorem wz:∀ns:List Int,depthAll (ns.map .int)=0
 | []=>rfl
 | n::ns=>by
  show max 0 (depthAll (ns.map .int))=0
  rw[wz ns]; rfl
theorem lz {K:zzA}:∀ns:List Int,aF K H (ns.map Dt.int) (ns.map V.int)
 | []=>by unfold aF; rfl
 | n::ns=>by
  rw[zAo,zAo]
  unfold aF
  exact⟨_,_,rfl,by unfold Rep; rfl,lz ns⟩
noncomputable def Je (K:zzA)(neg:Bool):R2:=λx y H Q=>∃(a l:Addr) (ks:List Int) (ps:zzD),x=.ref a/\y=.ref l/\aJ K H a (ks.map V.int)/\aD K H l (ps.map rv)/\(∀p∈ps,aJ K H p.1 (p.2.map V.int))/\Q (.bl (neg ^^ decide (∃p∈ps,p.2=ks))) H
theorem Bl:∀{a b:List Int},a.map V.int=b.map V.int->a=b
 | [],[],_=>rfl
 | x::xs,y::ys,h=>by
  rw[zAo,zAo] at h
  injection h with h1 h2
  injection h1 with h1
  rw[h1,Bl h2]
theorem Oi (hu:X.A.units+64 < cLine):dz X (compareOp .In) (Je X.K false):=by
 intro pins s σ H x y u v Q I rx ry h
 obtain⟨a,l,ks,ps,rfl,rfl,ha,hl,ht,q⟩:=h
 cases rx; cases ry
 obtain⟨its,r1,p1,_⟩:=I.list hl
 have e:=nV r1
 subst e
 have hk:=I.key ha
 classical
 let ev:Value->Bool:=λz=>decide (∃p∈ps,z=.ref p.1/\p.2=ks)
 refine SeqAt.in_listAt ev p1.isList (λz hz=>?_) ?_
 ·obtain⟨p,hp,rfl⟩:∃p∈ps,z=Value.ref p.1:=by simpa [eq_comm] using hz
  have he:ev (.ref p.1)=decide (p.2=ks):=by
   show decide _=decide _
   refine decide_eq_decide.mpr ⟨λ⟨p',uo,e1,e2⟩=>?_,λe=>⟨p,hp,rfl,e⟩⟩
   injection e1 with e1
   have h1:=ht p hp
   have h2:=ht p' uo
   rw[←e1] at h2
   rw[Bl (I.nR h1 h2)]
   exact e2
  rw[he]
  obtain⟨as,ra⟩:=jD I (.tup (p.2.map Dt.int)) (x:=.ref p.1) (u:=.ref p.1) (by unfold Rep; exact⟨_,_,rfl,ht p hp,lz _⟩) rfl
  obtain⟨bs,rb⟩:=jD I (.tup (ks.map Dt.int)) (x:=.ref a) (u:=.ref a) (by unfold Rep; exact⟨_,_,rfl,ha,lz _⟩) rfl
  have c1:∀ns:List Int,(Dt.tup (ns.map Dt.int)).py.canLay0=true:=λns=>by show canLayAll0 (Dt.d9 _)=true; rw[nj]; exact lay_ints ns
  have c2:∀ns:List Int,(Dt.tup (ns.map Dt.int)).py.depth=1:=λns=>by show depthAll (Dt.d9 _)+1=1; rw[nj,wz]
  have:=SeqAt.eqAt_reads _ _ X.A.in1 s _ _ _ _ ra rb (c1 _) (c1 _) (by rw[c2,c2]; show X.A.units+1+_ < cLine; simp; omega)
  have e:eqv (Dt.tup (p.2.map Dt.int)).py (Dt.tup (ks.map Dt.int)).py=decide (p.2=ks):=by
   show eqvAll (Dt.d9 _) (Dt.d9 _)=_
   rw[nj,nj,Bk]
  rw[e] at this
  exact this
 ·have:(ps.map λp=>Value.ref p.1).toArray.any ev=decide (∃p∈ps,p.2=ks):=by
   rw[zCe,decide_eq_true_iff]
   simp only [List.any_toArray,List.any_map,List.any_eq_true,Function.comp]
   constructor
   ·rintro⟨p,hp,e⟩
    obtain⟨p',uo,_,e2⟩:=zAt e
    exact⟨p',uo,e2⟩
   ·rintro⟨p,hp,e⟩
    exact⟨p,hp,zAm ⟨p,hp,rfl,e⟩⟩
  rw[this]
  rw[false_xor] at q
  exact⟨.bl _,H,I,rfl,q⟩
end
section
variable {X:Cx}(K:zzA)
theorem wA (h:X.K=K:=by rfl):dg X (.type "tuple") (λxs H Q=>∃p ys,xs=[.ref p]/\((aD K H p ys/\∀l,H l=none->Q (.ref l) (upd H l (.tup ys)))\/(aJ K H p ys/\Q (.ref p) H))):=h ▸ zU
noncomputable def QN (K:zzA)(prog:Program)(w:World):List V->Hp->VK->Prop:=λxs H Q=>∃(l:Addr) (ps:zzD),xs=[.ref l]/\aD K H l (ps.map rv)/\(∀p∈ps,aJ K H p.1 (p.2.map V.int))/\TB.Ay ps 300/\
 ∀(S:Addr) (qs:zzD),H S=none->(∀p∈qs,p∈ps)->(∀p∈ps,∃q∈qs,q.2=p.2)->(qs.map (·.2)).Nodup->Q (.ref S) (upd H S (u9 prog w S qs))
theorem Oj (P:Program)(w:World)(hu:X.A.units+64 < cLine)(h:X.K=K:=by rfl)(hP:X.prog=P:=by rfl)(hw:X.w=w:=by rfl)(hc:X.calm=true:=by rfl):dg X (.type "set") (QN K P w):=by
 subst h; subst hP; subst hw
 exact Gz hc hu
theorem Dr (P:Program)(w:World)(h:X.K=K:=by rfl)(hP:X.prog=P:=by rfl)(hw:X.w=w:=by rfl)(hc:X.calm=true:=by rfl):dg X (.builtin "sorted") (Dq K P w):=by
 subst h; subst hP; subst hw
 exact Bh hc
theorem Ol (hu:X.A.units+64 < cLine)(h:X.K=K:=by rfl):dz X (compareOp .Eq) (Bj K false):=h ▸ Og hu
theorem ET (hu:X.A.units+64 < cLine)(h:X.K=K:=by rfl):dz X (compareOp .NotEq) (Bj K true):=h ▸ Oh hu
theorem Om (hu:X.A.units+64 < cLine)(h:X.K=K:=by rfl):dz X (compareOp .In) (Je K false):=h ▸ Oi hu
end
noncomputable def Hm (D:Addr)(H:Hp):Hp:=λb=>if b=D then none else H b
theorem mj {D b:Addr}{H:Hp}(h:b≠D):Hm D H b=H b:=by unfold Hm; rw[xL h]
theorem EU (D:Addr)(H:Hp):Hm D H D=none:=by unfold Hm; rw[x4 rfl]
theorem ai.hm {D:Addr}{H H':Hp}(s:ai H H'):ai (Hm D H) (Hm D H'):=λb o e=>by
 by_cases c:b=D
 ·rw[c,EU] at e; cases e
 ·rw[mj c] at e ⊢; exact s b o e
theorem ai.pG {D:Addr}{H H':Hp}(s:ai H H')(o:HO):ai (Hm D H) (Hm D (upd H' D o)):=λb u e=>by
 by_cases c:b=D
 ·rw[c,EU] at e; cases e
 ·rw[mj c] at e ⊢; rw[aT c]; exact s b u e
theorem nq {D:Addr}{H:Hp}:ai (Hm D H) H:=λb u e=>by
 by_cases c:b=D
 ·rw[c,EU] at e; cases e
 ·rwa [mj c] at e
theorem ai.into {D:Addr}{H0 H:Hp}(s:ai H0 H)(h:H0 D=none):ai H0 (Hm D H):=λb u e=>by
 have c:b≠D:=bX e h
 rw[mj c]; exact s b u e
theorem aF.snoc {K:zzA}{H:Hp}{d:Dt}{v:V}(h:Rep K H d v):∀{ds:List Dt} {vs:List V},aF K H ds vs->aF K H (ds++[d]) (vs++[v])
 | [],_,r=>by
  unfold aF at r
  subst r
  show aF K H [d] [v]
  unfold aF
  exact⟨v,[],rfl,h,by unfold aF; rfl⟩
 | e::ds,_,r=>by
  unfold aF at r
  obtain⟨x,xs,rfl,q,t⟩:=r
  show aF K H (e::(ds++[d])) (x::(xs++[v]))
  unfold aF
  exact⟨x,_,rfl,q,aF.snoc h t⟩
theorem aF.append {K:zzA}{H:Hp}:∀{ds es:List Dt} {vs ws:List V},aF K H ds vs->aF K H es ws->aF K H (ds++es) (vs++ws)
 | [],es,_,ws,r,r2=>by unfold aF at r; subst r; exact r2
 | e::ds,es,_,ws,r,r2=>by
  unfold aF at r
  obtain⟨x,xs,rfl,q,t⟩:=r
  show aF K H (e::(ds++es)) (x::(xs++ws))
  unfold aF
  exact⟨x,_,rfl,q,aF.append t r2⟩
theorem aF.at_ {K:zzA}{H:Hp}:∀{ds:List Dt} {vs:List V},aF K H ds vs->∀(i:Nat) (v:V),vs[i]?=some v->∃d,ds[i]?=some d/\Rep K H d v
 | [],_,r,i,v,e=>by unfold aF at r; subst r; simp at e
 | d::ds,_,r,i,v,e=>by
  unfold aF at r
  obtain⟨x,xs,rfl,q,t⟩:=r
  cases i with
  | zero=>simp at e; subst e; exact⟨d,rfl,q⟩
  | succ i=>simpa using aF.at_ t i v (by simpa using e)
theorem aF.get {K:zzA}{H:Hp}{ds:List Dt}{vs:List V}(r:aF K H ds vs)(i:Nat)(d:Dt)(e:ds[i]?=some d):∃v,vs[i]?=some v/\Rep K H d v:=by
 have hl:=r.length
 have hi:i < vs.length:=by
  have:=(zAp.mp e).1
  omega
 obtain⟨d',e',q⟩:=r.at_ i vs[i] (xI hi)
 rw[e] at e'
 cases e'
 exact⟨_,xI hi,q⟩
theorem aF.erase {K:zzA}{H:Hp}:∀{ds:List Dt} {vs:List V} (i:Nat),aF K H ds vs->aF K H (ds.eraseIdx i) (vs.eraseIdx i)
 | [],_,i,r=>by unfold aF at r; subst r; simp; unfold aF; rfl
 | d::ds,_,i,r=>by
  unfold aF at r
  obtain⟨x,xs,rfl,q,t⟩:=r
  cases i with
  | zero=>exact t
  | succ i=>
   show aF K H (d::ds.eraseIdx i) (x::xs.eraseIdx i)
   unfold aF
   exact⟨x,_,rfl,q,aF.erase i t⟩
abbrev tupI (t:List Int):Dt:=.tup (t.map Dt.int)
abbrev ie (t:List Int):Dt:=.lst (t.map Dt.int)
theorem Ma {K:zzA}{H:Hp}{i:Int}{v:V}(h:Rep K H (.int i) v):v=.int i:=by unfold Rep at h; exact h
theorem lM {K:zzA}{H:Hp}:∀{t:List Int} {vs:List V},aF K H (t.map Dt.int) vs->vs=t.map V.int
 | [],_,r=>by unfold aF at r; exact r
 | i::t,_,r=>by
  rw[zAo] at r
  unfold aF at r
  obtain⟨x,xs,rfl,q,t'⟩:=r
  rw[Ma q,lM t']
  rfl
theorem fY {K:zzA}{H:Hp}{t:List Int}{v:V}:Rep K H (tupI t) v↔∃a,v=.ref a/\aJ K H a (t.map V.int):=by
 constructor
 ·intro h
  unfold tupI Rep at h
  obtain⟨a,xs,rfl,q,r⟩:=h
  exact⟨a,rfl,lM r ▸ q⟩
 ·rintro⟨a,rfl,q⟩
  unfold tupI Rep
  exact⟨a,_,rfl,q,lz t⟩
theorem kr {K:zzA}{H:Hp}{t:List Int}{v:V}:Rep K H (ie t) v↔∃a,v=.ref a/\aD K H a (t.map V.int):=by
 constructor
 ·intro h
  unfold ie Rep at h
  obtain⟨a,xs,rfl,q,r⟩:=h
  exact⟨a,rfl,lM r ▸ q⟩
 ·rintro⟨a,rfl,q⟩
  unfold ie Rep
  exact⟨a,_,rfl,q,lz t⟩
theorem nX {K:zzA}{H:Hp}:∀{ts:zzB} {vs:List V},aF K H (ts.map tupI) vs->∃ps:zzD,vs=ps.map rv/\ps.map (·.2)=ts/\∀p∈ps,aJ K H p.1 (p.2.map V.int)
 | [],_,r=>by unfold aF at r; subst r; exact⟨[],rfl,rfl,λp hp=>by cases hp⟩
 | t::ts,_,r=>by
  rw[zAo] at r
  unfold aF at r
  obtain⟨x,xs,rfl,q,t'⟩:=r
  obtain⟨a,rfl,qa⟩:=fY.mp q
  obtain⟨ps,rfl,e2,e3⟩:=nX t'
  refine⟨(a,t)::ps,rfl,by rw[zAo,e2],λp hp=>?_⟩
  rcases wS.mp hp with rfl | hp
  ·exact qa
  ·exact e3 p hp
theorem rQ {K:zzA}{H:Hp}:∀ps:zzD,(∀p∈ps,aJ K H p.1 (p.2.map V.int))->aF K H ((ps.map (·.2)).map tupI) (ps.map rv)
 | [],_=>by show aF K H [] []; unfold aF; rfl
 | p::ps,h=>by
  show aF K H (tupI p.2::(ps.map (·.2)).map tupI) (rv p::ps.map rv)
  unfold aF
  exact⟨_,_,rfl,fY.mpr ⟨p.1,rfl,h p zAs⟩,rQ ps λq hq=>h q (zAr _ hq)⟩
section
variable {K:zzA}{ix:List (Option Nat)}{te:TE}{σ:St}{H1:Hp}{Q:Addr->Hp->Prop}
theorem zW {a:Addr}{xs:List V}{i₀:Nat}(f:Nat->Dt)(hq:aD K H1 a xs)(hz:xs.length<=sizeLine)
  (hs:∀(D:Addr) (i:Nat) (x:V) (H:Hp) (R:VK),H1 D=none->(∃ys,H D=some (.lst ys))->xs[i]?=some x->ai H1 H->(∀v H6,ai H H6->Rep K (Hm D H6) (f i) v->R v H6)->te ((cN ix σ).set i₀ (some x)) H R)
  (hd:∀D H ys,H1 D=none->ai H1 H->H D=some (.lst ys)->aF K (Hm D H) ((range xs.length).map f) ys->Q D H):dP (rB K a) ix (bC i₀) kq te σ H1 Q:=by
 intro D hD
 refine⟨λi m ys H=>m=xs.length - i/\i<=xs.length/\ai H1 H/\aF K (Hm D H) ((range i).map f) ys,⟨xs.length,by simp,zAw _,ai.new hD _,by show aF K _ [] []; unfold aF; rfl⟩,?_⟩
 rintro i m ys H ⟨rfl,hi,sm,p⟩ aV
 have q:=sm.seq hq
 by_cases hlt:i < xs.length
 ·refine .inr ⟨⟨xs,xs[i],q,by simp [hlt]⟩,λx H3 y=>?_⟩
  obtain⟨e,y⟩:=y
  subst e
  show te ((cN ix σ).set i₀ (some x)) _ _
  refine hs D i x _ _ hD ⟨ys,aV⟩ (y xs q) sm λv H6 s6 rv6=>?_
  have hyl:ys.length=i:=by rw[p.length,y3,zBd]
  refine⟨s6 _ _ aV,by omega,xs.length - (i+1),by omega,rfl,hlt,(sm.trans s6).put hD _,?_⟩
  rw[zBp,v4]
  exact aF.snoc (rv6.same ((ai.refl H6).pG _)) (p.same (s6.pG _))
 ·have e:i=xs.length:=by omega
  subst e
  exact .inl ⟨⟨xs,q,x3 _⟩,hd D H ys hD sm aV p⟩
end
section
variable {X:Cx}(K:zzA)
theorem Tn (hu:X.A.units+64 < cLine)(h:X.K=K:=by rfl):dz X (compareOp .Lt) (IQ K):=h ▸ NH (by omega)
end
section
variable {K:zzA}{ix:List (Option Nat)}{te ta tb:TE}{tt:TA}{g:TG}{tf:TT}{σ:St}{H H1:Hp}{Q:Addr->Hp->Prop}{R:VK}
theorem nt {a:Addr}{xs:List V}{i₀:Nat}(f:V->V)(hq:aJ K H1 a xs)(hz:xs.length<=sizeLine)
  (hs:∀(i:Nat) (x:V) (H:Hp) (R:VK),xs[i]?=some x->ai H1 H->(∀H6,ai H H6->R (f x) H6)->te ((cN ix σ).set i₀ (some x)) H R)
  (hd:∀D H,H1 D=none->ai H1 H->H D=some (.lst (xs.map f))->Q D H):dP (AM K a) ix (bC i₀) kq te σ H1 Q:=by
 intro D hD
 refine⟨λi m ys H=>m=xs.length - i/\i<=xs.length/\ai H1 H/\ys=(xs.take i).map f,⟨xs.length,by simp,zAw _,ai.new hD _,by simp⟩,?_⟩
 rintro i m ys H ⟨rfl,hi,sm,p⟩ aV
 have q:=sm.tup hq
 by_cases hlt:i < xs.length
 ·refine .inr ⟨⟨xs,xs[i],q,by simp [hlt]⟩,λx H3 y=>?_⟩
  obtain⟨e,y⟩:=y
  subst e
  have hx:=y xs q
  show te ((cN ix σ).set i₀ (some x)) _ _
  refine hs i x _ _ hx sm λH6 r1=>?_
  refine⟨r1 _ _ aV,?_,xs.length - (i+1),by omega,rfl,hlt,(sm.trans r1).put hD _,?_⟩
  ·rw[p,y3,zA9]; omega
  ·rw[zV f xs i x hx,p]
 ·have e:i=xs.length:=by omega
  subst e
  refine .inl ⟨⟨xs,q,x3 _⟩,hd D H hD sm ?_⟩
  rw[aV,p,zBb]
theorem Bm {a:Addr}{xs:List V}(h:Gv ta σ H (.ref a))(hq:aJ K H a xs)(k:∀H',ai H H'->aJ K H' a xs->dP (AM K a) ix g tf te σ H' λD' H2=>R (.ref D') H2):jR (Eu K ta) ix g tf te σ H R:=h _ λH' s=>⟨a,rfl,⟨xs,s.tup hq⟩,k H' s (s.tup hq)⟩
theorem Mb {i j:Int}(h:Ga tt σ H [.int i,.int j])(hb:-(2 ^ 62)<=i/\i < 2 ^ 62/\-(2 ^ 62)<=j/\j < 2 ^ 62)(k:∀H',ai H H'->dP (qx i (j - i).toNat) ix g tf te σ H' λD' H2=>R (.ref D') H2):jR (Ew tt) ix g tf te σ H R:=h _ λH' s=>⟨i,j,rfl,hb,k H' s⟩
theorem xR {a:Addr}{xs:List V}(h:Ga tt σ H [.ref a])(hq:aJ K H a xs):Gv (qz (λxs H Q=>∃x n,xs=[x]/\rG K x H n/\Q (.int n) H) tt) σ H (.int xs.length):=Bf h λ_ s=>.inr ⟨xs,s.tup hq,rfl⟩
theorem aO {a:Addr}{xs:List V}{i:Int}{v:V}(h:Gv ta σ H (.ref a))(g:∀H',ai H H'->Gv tb σ H' (.int i))(hq:aJ K H a xs)(hi:iR xs i=some v):Gv (di (xN K) ta tb) σ H v:=λR r=>h _ λH' s=>g H' s _ λH2 s2=>⟨a,xs,i,v,rfl,rfl,(s.trans s2).tup hq,hi,r H2 (s.trans s2)⟩
theorem Oo {a b:Addr}{x y:List Int}(h:Gv ta σ H (.ref a))(g:∀H',ai H H'->Gv tb σ H' (.ref b))(ha:aJ K H a (x.map V.int))(hb:aJ K H b (y.map V.int)):Gv (di (IQ K) ta tb) σ H (.bl (HT.lexLt x y)):=λR r=>h _ λH1 s1=>g H1 s1 _ λH2 s2=>⟨a,b,x,y,rfl,rfl,(s1.trans s2).tup ha,(s1.trans s2).tup hb,r H2 (s1.trans s2)⟩
end
section
variable {prog:Program}{w:World}{A:Around}{E:zzE}{s:Shared}
end
section
variable {prog:Program}{w:World}{A:Around}{E:zzE}{s:Shared}
end
section
variable {X:Cx}
end
section
variable {K:zzA}{ix:List (Option Nat)}{te ta tb:TE}{tt:TA}{g:TG}{tf:TT}{σ:St}{H H1:Hp}{Q:Addr->Hp->Prop}{R:VK}
end
section
variable {X:Cx}(K:zzA)
end
end L2
namespace TB
open PySem PySem.Spec
namespace SF
theorem zc:entryFor table "dict.update.loop"=some Builtin.«dict.update.loop»:=entryFor_of_tree (by kernel_rfl)
theorem nY:plainId "dict.update.loop"=true:=by decide +kernel
theorem GA:typeLookup (.type "list") "keys"=pure none:=am_miss_of_fast (by decide +kernel)
end SF
section
variable {prog:Program}{w:World}{K:Type}[DecidableEq K]{knd:KeyKind prog w K}{A:Around}{E:zzE}{s:Shared}
theorem Oq {a:Addr}{o:Obj}{xs:Array Value}{k:Nat}{Q:Option Value->Shared->Prop}(hx:s.heap.get? a=some o)(hc:o.cls=.type "list")(hdat:o.data=.seq xs k)(hd:o.dict=none)(hA:A.handled=none)
  (h:∀h' tk,(∀b ob,s.heap.get? b=some ob->h'.get? b=some ob)->Q none { s with heap:=h',toks:=tk }) :
  wpAny (model prog w) A (getAttr? (.ref a) "keys") Q E s:=by
 obtain⟨c,dct,dat,sl⟩:=o
 simp only at hc hdat hd
 subst hc hdat hd
 obtain⟨hp,g,d,tk,os⟩:=s
 have hT:∀tk',(⟨hp,g,d,tk',os⟩:Shared).TypeIs (.ref a) "list":=λ_=>⟨_,hx,rfl⟩
 have f1:=sub_AttributeError
 have f3:=F.slot_list_getattribute.lookup
 have f4:=F.slot_list_getattribute.bind (.ref a)
 have f5:=am_list_getattr_none
 unfold getAttr? getAttrBy? getAttrBy
 repeat (any_goals (first | assumption | exact hT _ | ((with_reducible show wpAny _ _ (call (Value.builtin "list.__getattribute__") _ _) _ _ _); refine call_meets F.slot_list_getattribute (hT _) am_entry_list_getattribute (F.args_list_getattribute_2 _ _) (meets_getattribute_miss_list a xs k sl "keys" _ SF.GA (by decide +kernel) (by decide +kernel)) ⟨hx,hA,λh' tk' e hx'=>?_⟩) | wp_step))
 obtain⟨t',u',he⟩:=hx'.there
 show wpAny _ _ (getattributeRaised _ _ _ _ _ _ _) _ _ _
 unfold getattributeRaised
 repeat (any_goals (first | assumption | wp_step))
 all_goals first | exact h _ _ hx'.keeps | skip
noncomputable def nu (h:Heap)(c a:Addr):Prop:=∃o n,h.get? c=some o/\o.cls=.type "tuple"/\o.data=.seq #[.ref a,.bool true] n
theorem nu.at_ {h h':Heap}{c a:Addr}(x:nu h c a)(k:∀o,h.get? c=some o->h'.get? c=some o):nu h' c a:=by
 obtain⟨o,n,ho,r⟩:=x
 exact⟨o,n,k o ho,r⟩
theorem dictAt {h h':Heap}{S:Addr}{ds:List (List K × Addr × Value)}(x:h.DictOfH (tupleKind knd) S ds)(k:∀o,h.get? S=some o->h'.get? S=some o)(kk:∀x∈ds,∀o,h.get? x.2.1=some o->h'.get? x.2.1=some o):h'.DictOfH (tupleKind knd) S ds:=by
 obtain⟨o,es,ep,ho,a1,a2,a3,a4,a5⟩:=x
 exact⟨o,es,ep,k o ho,a1,a2,a3,λx hx=>g9 (a4 x hx) (kk x hx),a5⟩
theorem Bo (xs:List (List K × Addr × Value))(k:List K)(a:Addr)(v:Value)(k':List K):(atKey (storedH xs k a v) k').isSome=((atKey xs k').isSome||decide (k=k')):=by
 have u_:∀(ys:List (List K × Addr × Value)) (q:List K),(atKey ys q).isSome=ys.any λx=>decide (x.1=q):=λys q=>by
  unfold atKey
  rw[Option.isSome_map,zCe,List.find?_isSome]
  simp
 rw[u_,u_]
 unfold storedH
 split
 ·rename_i hs
  rw[u_] at hs
  rw[List.any_map]
  have e:((λx:List K × Addr × Value=>decide (x.1=k')) ∘ putAt k v)=λx=>decide (x.1=k'):=by
   funext x
   show decide ((putAt k v x).1=k')=_
   unfold putAt
   split <;> rfl
  rw[e]
  by_cases q:k=k'
  ·subst q; rw[hs]; simp
  ·simp [q]
 ·rw[List.any_append]; simp
theorem EV (xs:List (List K × Addr × Value))(k:List K)(a:Addr)(v:Value):(storedH xs k a v).length<=xs.length+1:=by
 unfold storedH
 split <;> simp
variable {I:Addr}{fp wr:List Addr}{n:Nat}{P:Nat->Value->Prop}{St:Nat->Heap->Prop}{R:Result->Shared->Prop}
theorem QO (W:Walks prog w A.in1 I fp wr n P St)(S:Addr)(hSf:S∉fp){xs:List (Addr × Addr × List K)}(hn:xs.length=n)(hval:∀(i:Nat) (v:Value),P i v->∃p,xs[i]?=some p/\v=.ref p.1)(hw:∀p∈xs,p.1∉wr/\p.2.1∉wr)
  (hu:A.in1.units < cLine) (hz:xs.length<=9000) :
  ∀(k i:Nat) (s:Shared) (ds:List (List K × Addr × Value)),n - i=k->i<=n->St i s.heap->s.heap.DictOfH (tupleKind knd) S ds->(∀p∈xs,nu s.heap p.1 p.2.1/\IsTupleKey knd s.heap p.2.2 p.2.1)->ds.length<=i->
   (∀q,(atKey ds q).isSome=true↔∃p∈xs.take i,p.2.2=q)->(∀x∈ds,∃p∈xs,x.1=p.2.2/\x.2.1=p.2.1)->
   (∀h' tk ds',(∀b o,b≠S->b∉wr->s.heap.get? b=some o->h'.get? b=some o)->h'.DictOfH (tupleKind knd) S ds'->(∀q,(atKey ds' q).isSome=true↔∃p∈xs,p.2.2=q)->(∀x∈ds',∃p∈xs,x.1=p.2.2/\x.2.1=p.2.1)->R (.ok (.ret .none)) { s with heap:=h',toks:=tk })->
   codeAny (model prog w) A (.builtin "dict.update.loop" ⟨[.ref S,.ref I,rawInt i,.none],[]⟩) R s:=by
 have FQ:S∉wr:=λh=>hSf (W.sub _ h)
 intro k
 induction k with
 | zero=>
  intro i s ds hk hi hst hS tups hl all mem hR
  obtain rfl:i=n:=by omega
  refine zDd SF.zc ?_
  rw[zCu SF.nY _]
  show wpAny _ A.in1 (pyNext (.ref I) >>= _) _ _ s
  refine yB (W.done s _ _ hst λh' tk hm=>?_)
  show wpAny _ A.in1 (Builtin.Dict.addKeywords S [] >>= λ_=>ret Value.none) _ _ _
  refine yB (y6 (y6 (hR h' tk ds (λb o _ hb e=>hm b o hb e) (dictAt hS (λo e=>hm S o FQ e) λx hx o e=>?_) ?_ mem)))
  ·obtain⟨p,hp,_,e2⟩:=mem x hx
   exact hm _ o (by rw[e2]; exact (hw p hp).2) e
  ·rw[←hn,zBb] at all
   exact all
 | succ k ih=>
  intro i s ds hk hi hst hS tups hl all mem hR
  have hlt:i < n:=by omega
  refine zDd SF.zc ?_
  rw[zCu SF.nY _]
  show wpAny _ A.in1 (pyNext (.ref I) >>= _) _ _ s
  refine yB (W.item i s _ _ hlt hst λv h' tk hP Iu hm=>?_)
  obtain⟨p,hp,rfl⟩:=hval i v hP
  have hpx:p∈xs:=zAj hp
  have hS':h'.DictOfH (tupleKind knd) S ds:=dictAt hS (λo e=>hm S o FQ e) λx hx o e=>by
   obtain⟨p,hp,_,e2⟩:=mem x hx
   exact hm _ o (by rw[e2]; exact (hw p hp).2) e
  have fG:∀q∈xs,nu h' q.1 q.2.1/\IsTupleKey knd h' q.2.2 q.2.1:=λq hq=>⟨(tups q hq).1.at_ λo e=>hm _ o (hw q hq).1 e,g9 (tups q hq).2 λo e=>hm _ o (hw q hq).2 e⟩
  obtain⟨oc,nc,hoc,hcc,hdc⟩:=(fG p hpx).1
  dsimp only
  refine yB (zBs ?_)
  refine yB (wpAny_tryCatch ?_)
  unfold Builtin.Dict.pairItems
  refine yB (zD3 (T:="tuple") ⟨oc,hoc,hcc⟩ ?_)
  rw[x4 (by decide)]
  refine yB (zCk hoc hdc (y6 ?_))
  show wpAny _ A.in1 (holding [Value.ref p.2.1,.bool true] (dictSet S (.ref p.2.1) (.bool true))) _ _ _
  refine zBs ?_
  refine wpAny_dictSet_heap (s:={ s with heap:=h',toks:=tk }) (knd:=tupleKind knd) (k:=p.2.2) hu (fG p hpx).2 hS' (λh2 fL sb=>?_) (by rw[zAk]; omega)
  have keep:∀b o,b≠S->h'.get? b=some o->h2.get? b=some o:=λb o hb e=>(sb.2 b hb).trans e
  have ne:∀{c:Addr} {o:Obj},h'.get? c=some o->o.cls=.type "tuple"->c≠S:=λ{c o} e hc z=>by
   obtain⟨od,_,_,hod,ex,_⟩:=hS'
   rw[z,hod] at e
   cases e
   rw[ex.1] at hc
   exact absurd hc (by decide)
  have hle:=EV ds p.2.2 p.2.1 (.bool true)
  refine y6 ⟨plainId_quiet SF.nY _,ih (i+1) _ _ (by omega) hlt (W.frame _ _ _ Iu λb hb o e=>keep b o (λ(h:b=S)=>hSf (h ▸ hb)) e) fL (λq hq=>?_) (by omega) (λq=>?_) (λx hx=>?_) λh3 M5 UR kp q_ a3 m3=>?_⟩
  ·obtain⟨o1,n1,e1,c1,d1⟩:=(fG q hq).1
   refine⟨⟨o1,n1,keep _ _ (ne e1 c1) e1,c1,d1⟩,?_⟩
   obtain⟨o2,i2,n2,e2,c2,r2⟩:=(fG q hq).2
   exact⟨o2,i2,n2,keep _ _ (ne e2 c2) e2,c2,r2⟩
  ·rw[Bo,Bool.or_eq_true,decide_eq_true_iff,all q]
   have htk:xs.take (i+1)=xs.take i++[p]:=by rw[zBv,hp]; rfl
   rw[htk]
   constructor
   ·rintro (⟨r,hr,e⟩ | e)
    ·exact⟨r,zCv _ hr,e⟩
    ·exact⟨p,by simp,e⟩
   ·rintro⟨r,hr,e⟩
    rcases wT.mp hr with z | z
    ·exact .inl ⟨r,z,e⟩
    ·rw[w8.mp z] at e; exact .inr e
  ·unfold storedH at hx
   split at hx
   ·obtain⟨y,hy,rfl⟩:=x5.mp hx
    obtain⟨r,hr,e1,e2⟩:=mem y hy
    refine⟨r,hr,?_⟩
    unfold putAt
    split
    ·exact⟨e1,e2⟩
    ·exact⟨e1,e2⟩
   ·rcases wT.mp hx with z | z
    ·exact mem x z
    ·rw[w8.mp z]; exact⟨p,hpx,rfl,rfl⟩
  ·exact hR h3 M5 UR (λb o h1 h2' e=>kp b o h1 h2' (keep b o h1 (hm b o h2' e))) q_ a3 m3
theorem EW {l:Addr}{ol:Obj}{nl:Nat}{xs:List (Addr × Addr × List K)}{Q:zzE}(hh:A.handled=none)(hol:s.heap.get? l=some ol)(hcl:ol.cls=.type "list")(hdl:ol.data=.seq (xs.map λp=>Value.ref p.1).toArray nl)(hdd:ol.dict=none)
  (tups:∀p∈xs,nu s.heap p.1 p.2.1/\IsTupleKey knd s.heap p.2.2 p.2.1) (hu:A.units+8 < cLine) (hz:xs.length<=9000)
  (h:∀(h':Heap) (tk:Nat) (ds:List (List K × Addr × Value)),h'.DictOfH (tupleKind knd) s.heap.objs.size ds->(∀q,(atKey ds q).isSome=true↔∃p∈xs,p.2.2=q)->(∀x∈ds,∃p∈xs,x.1=p.2.2/\x.2.1=p.2.1)->(∀b o,s.heap.get? b=some o->h'.get? b=some o)->Q (.ref s.heap.objs.size) { s with heap:=h',toks:=tk }) :
  wpAny (model prog w) A (call (.type "dict") [.ref l]) Q E s:=by
 refine callType_codes (Q₁:=λobj s₁=>obj=.ref s.heap.objs.size/\s₁={ s with heap:=s.heap.push { cls:=.type "dict",data:=.dict #[] } }) F.kt_called_dict (F.kt_typeCall_dict_1 _) F.entry_dict_init (kt_code_dict_new _ ⟨rfl,rfl⟩) ?_
 rintro obj s₁ ⟨rfl,rfl⟩
 have hnew:(s.heap.push { cls:=.type "dict",data:=.dict #[] }).DictOfH (tupleKind knd) s.heap.objs.size []:=Heap.DictOfH.new s.heap
 have Jf:(s.heap.push { cls:=.type "dict",data:=.dict #[] }).get? l=some ol:=y8 _ hol
 have hlS:l < s.heap.objs.size:=kA hol
 refine⟨hnew.typeIs,F.args_dict_init_2 _ _,?_⟩
 unfold Builtin.«dict.__init__»
 refine yB ?_
 unfold Builtin.Dict.selfAndRest
 refine yB (wpAny_notOrdered_dict hnew.typeIs ?_)
 show wpAny _ _ (pure (s.heap.objs.size,[Value.ref l])) _ _ _
 refine y6 ?_
 show wpAny _ _ (updateFrom "dict.__init__" s.heap.objs.size (.ref l) [] .none) _ _ _
 unfold updateFrom
 refine yB (zD3 (T:="list") ⟨ol,Jf,hcl⟩ ?_)
 rw[x4 (by decide)]
 refine yB (Oq Jf hcl hdl hdd (by simp [hh]) λh1 US k1=>?_)
 simp only [Option.isNone_none,zCt]
 have hS1:h1.DictOfH (tupleKind knd) s.heap.objs.size []:=dictAt hnew (λo e=>k1 _ o e) λx hx=>absurd hx (by simp)
 have hl1:h1.get? l=some ol:=k1 _ _ Jf
 have Ot:h1.IsList l (xs.map λp=>Value.ref p.1).toArray:=⟨ol,hl1,hcl,nl,hdl⟩
 have kp1:∀b o,s.heap.get? b=some o->h1.get? b=some o:=λb o e=>k1 b o (y8 _ e)
 have xE:s.heap.objs.size < h1.objs.size:=by
  obtain⟨o,_,_,ho,_⟩:=hS1
  exact kA ho
 have To:l < h1.objs.size:=kA hl1
 refine yB (zCo (yB (wpAny_pyIter_list (s:={ s with heap:=h1,toks:=US }) Ot ?_)))
 have kp2:∀b o,h1.get? b=some o->(h1.push { cls:=.type "list_iterator",data:=.fields #[.ref l,.int 0 0] }).get? b=some o:=λb o e=>y8 _ e
 have M6:(h1.push { cls:=.type "list_iterator",data:=.fields #[.ref l,.int 0 0] }).get? h1.objs.size=some { cls:=.type "list_iterator",data:=.fields #[.ref l,.int 0 0] }:=wE _ rfl
 generalize h1.push { cls:=.type "list_iterator",data:=.fields #[.ref l,.int 0 0] }=h2 at *
 have W:=Walks.list (prog:=prog) (w:=w) (A:=A.in1.in1) (by simp [hh]) h1.objs.size l (zAn To) (xs.map λp=>Value.ref p.1).toArray
 refine y6 ⟨plainId_quiet SF.nY _,QO (knd:=knd) W s.heap.objs.size ?_ (xs:=xs) (by simp) (λi v hv=>?_) (λp hp=>?_) (by simp only [Around.in1]; omega) hz _ 0 _ [] rfl (zAw _)
  ⟨⟨_,M6,rfl,rfl⟩,⟨ol,kp2 _ _ hl1,hcl,nl,hdl⟩⟩ (dictAt hS1 (λo e=>kp2 _ o e) λx hx=>absurd hx (by simp)) (λp hp=>⟨(tups p hp).1.at_ λo e=>kp2 _ o (kp1 _ o e),g9 (tups p hp).2 λo e=>kp2 _ o (kp1 _ o e)⟩) (x3 _) (λq=>?_) (λx hx=>absurd hx (by simp)) λh' tk ds kp hS' m1 m2=>?_⟩
 ·simp only [wS,zBr,zBz,not_or]
  exact⟨zAn xE,zCr hlS⟩
 ·simp at hv
  obtain⟨a,⟨b,c,hp⟩,rfl⟩:=hv
  exact⟨(a,b,c),hp,rfl⟩
 ·obtain⟨⟨o1,_,e1,_⟩,⟨o2,_,_,e2,_⟩⟩:=tups p hp
  simp only [wS,zBr,zBz]
  exact⟨zAn (kA (kp1 _ _ e1)),zAn (kA (kp1 _ _ e2))⟩
 ·simp [atKey]
 ·refine⟨rfl,h h' tk ds hS' m1 m2 λb o e=>kp b o (zAn (kA e)) ?_ (kp2 _ _ (kp1 _ _ e))⟩
  simp only [wS,zBr,zBz]
  exact zAn (kA (kp1 _ _ e))
end
end TB
namespace L2
open PySem PySem.Spec PyProof.Rows
noncomputable def Tq (prog:Program)(w:World)(h:Heap)(S:Addr)(ds:List (List Int × Addr × Value)):Prop:=(S == sysModules)=false/\∃o es ep,h.get? S=some o/\o.ExactDict/\o.data=.dict es ep/\es.toList=ds.map (entryOfKey (tupleKind (intKind prog w)))/\(ds.map (·.1)).Nodup
noncomputable def wB (prog:Program)(w:World)(S:Addr)(ds:List (List Int × Addr × Value)):HO:=.ext λh=>Tq prog w h S ds
abbrev Ov (p:Addr × Addr × List Int):V:=.ref p.1
theorem Bp:∀{ps:List (Addr × Addr × List Int)} {us:List Value},Vals (ps.map Ov) us->us=ps.map λp=>Value.ref p.1
 | [],_,.nil=>rfl
 | p::ps,u::us,.cons r t=>by
  have e:u=.ref p.1:=r
  rw[e,Bp t]
  rfl
section
variable {X:Cx}{pins:zzC}{σ:St}{H:Hp}{s:Shared}
theorem Inv.pair (I:Inv X pins σ H s){c a:Addr}(h:aJ X.K H c [.ref a,.bl true]):TB.nu s.heap c a:=by
 obtain⟨its,r,⟨o,ho,hc,n,hd⟩,_⟩:=I.tuple h
 obtain⟨u,v,rfl,ru,rv⟩:=vals2 r
 cases ru
 cases rv
 exact⟨o,n,ho,hc,hd⟩
noncomputable def Ku (K:zzA)(prog:Program)(w:World):List V->Hp->VK->Prop:=λxs H Q=>∃(l:Addr) (ps:List (Addr × Addr × List Int)),xs=[.ref l]/\aD K H l (ps.map Ov)/\(∀p∈ps,aJ K H p.1 [.ref p.2.1,.bl true]/\aJ K H p.2.1 (p.2.2.map V.int))/\ps.length<=9000/\
 ∀(S:Addr) (ds:List (List Int × Addr × Value)),H S=none->(∀q,(atKey ds q).isSome=true↔∃p∈ps,p.2.2=q)->(∀x∈ds,∃p∈ps,x.1=p.2.2/\x.2.1=p.2.1)->Q (.ref S) (upd H S (wB prog w S ds))
theorem EX (hc:X.calm=true)(hu:X.A.units+64 < cLine):dg X (.type "dict") (Ku X.K X.prog X.w):=by
 intro pins s σ H xs us Q I r h
 obtain⟨l,ps,rfl,hq,ht,hz,q⟩:=h
 obtain⟨u,rfl,ru⟩:=vals1 r
 cases ru
 obtain⟨its,r',⟨o,n,ho,hcl,hdd,hd⟩,_⟩:=I.list hq
 rw[Bp r'] at hd
 have big:sysModules < s.heap.objs.size:=by
  have h:mainGlobals < s.heap.objs.size:=(I.mod.glob.keeps I.bk).lt
  exact zD6 (by decide) h
 refine TB.EW (knd:=intKind X.prog X.w) (xs:=ps) (I.ok.hd hc) ho hcl hd hdd (λp hp=>⟨I.pair (ht p hp).1,I.key (ht p hp).2⟩) (by omega) hz λh' tk ds hS m1 m2 kp=>?_
 obtain⟨od,es,ep,hod,e1,e2,e3,_,e5⟩:=hS
 refine⟨.ref s.heap.objs.size,_,I.laid (t':=tk) kp (x3 _) (show bR X.prog X.w _ h' _ (wB X.prog X.w s.heap.objs.size ds) from ⟨⟨zD9.mpr (zCr big),od,es,ep,hod,e1,e2,e3,e5⟩,⟨od,hod⟩,λh1 h2 x k=>?_⟩),rfl,q _ ds (I.hok.fresh (x3 _)) m1 m2⟩
 obtain⟨x0,o,es,ep,ho,r⟩:=x
 exact⟨x0,o,es,ep,k o ho,r⟩
end
section
variable {X:Cx}(K:zzA)
theorem Ow (P:Program)(w:World)(hu:X.A.units+64 < cLine)(h:X.K=K:=by rfl)(hP:X.prog=P:=by rfl)(hw:X.w=w:=by rfl)(hc:X.calm=true:=by rfl):dg X (.type "dict") (Ku K P w):=by
 subst h; subst hP; subst hw
 exact EX hc hu
end
end L2
namespace TB
open PySem PySem.Spec L2
mutual
noncomputable def fO (h:Heap):Dt->Value->Prop
 | .bq,v=>v=.none
 | .int i,v=>∃t,v=.int i t
 | .str x,v=>PyData.strOk x=true/\∃t,v=.str x t
 | .tup ds,v=>∃a o items n,v=.ref a/\h.get? a=some o/\o.cls=.type "tuple"/\o.data=.seq items n/\d_ h ds items.toList
 | _,_=>False
noncomputable def d_ (h:Heap):List Dt->List Value->Prop
 | [],vs=>vs=[]
 | d::ds,vs=>∃v r,vs=v::r/\fO h d v/\d_ h ds r
end
mutual
noncomputable def nv:Dt->Nat
 | .tup ds=>fj ds+1
 | _=>0
noncomputable def fj:List Dt->Nat
 | []=>0
 | d::ds=>max (nv d) (fj ds)
end
mutual
noncomputable def jU (P:Program)(w:World):Dt->Int
 | .bq=>reduceHash 0xFCA86420
 | .int i=>(intKind P w).hash i
 | .str x=>(strKind P w).hash x
 | .tup ds=>reduceHash (tupleHashOf (mR P w ds))
 | _=>0
noncomputable def mR (P:Program)(w:World):List Dt->List Int
 | []=>[]
 | d::ds=>jU P w d::mR P w ds
end
mutual
noncomputable def Ak:Dt->Nat
 | .tup ds=>rR ds+1
 | _=>1
noncomputable def rR:List Dt->Nat
 | []=>0
 | d::ds=>Ak d+rR ds
end
mutual
theorem fO.inj {h:Heap}:∀(d e:Dt) {v:Value},fO h d v->fO h e v->d=e
 | .int i,e,v,hd,he=>by
  obtain⟨t,rfl⟩:=hd
  cases e with
  | bq=>cases (show _=Value.none from he)
  | int j=>obtain⟨_,z⟩:=he; cases z; rfl
  | str _=>obtain⟨_,_,z⟩:=he; cases z
  | tup _=>obtain⟨_,_,_,_,z,_⟩:=he; cases z
  | _=>exact he.elim
 | .str x,e,v,hd,he=>by
  obtain⟨_,t,rfl⟩:=hd
  cases e with
  | bq=>cases (show _=Value.none from he)
  | int j=>obtain⟨_,z⟩:=he; cases z
  | str _=>obtain⟨_,_,z⟩:=he; cases z; rfl
  | tup _=>obtain⟨_,_,_,_,z,_⟩:=he; cases z
  | _=>exact he.elim
 | .tup ds,e,v,hd,he=>by
  obtain⟨a,o,items,n,rfl,ho,hc,hdat,hi⟩:=hd
  cases e with
  | bq=>cases (show _=Value.none from he)
  | int j=>obtain⟨_,z⟩:=he; cases z
  | str _=>obtain⟨_,_,z⟩:=he; cases z
  | tup es=>
   obtain⟨a',o',items',n',z,ho',hc',Kv,hi'⟩:=he
   cases z
   obtain rfl:o=o':=zAh (ho.symm.trans ho')
   rw[hdat] at Kv
   injection Kv with h1 _
   subst h1
   rw[d_.inj ds es hi hi']
  | _=>exact he.elim
 | .bq,e,v,hd,he=>by
  obtain rfl:v=.none:=hd
  cases e with
  | bq=>rfl
  | int j=>obtain⟨_,z⟩:=he; cases z
  | str _=>obtain⟨_,_,z⟩:=he; cases z
  | tup _=>obtain⟨_,_,_,_,z,_⟩:=he; cases z
  | _=>exact he.elim
 | .bl _,_,_,hd,_=>hd.elim
 | .lst _,_,_,hd,_=>hd.elim
theorem d_.inj {h:Heap}:∀(ds es:List Dt) {vs:List Value},d_ h ds vs->d_ h es vs->ds=es
 | [],[],_,_,_=>rfl
 | [],e::es,vs,hd,he=>by obtain⟨_,_,z,_⟩:=he; rw[show vs=[] from hd] at z; cases z
 | d::ds,[],vs,hd,he=>by obtain⟨_,_,z,_⟩:=hd; rw[show vs=[] from he] at z; cases z
 | d::ds,e::es,vs,hd,he=>by
  obtain⟨v,r,rfl,h1,h2⟩:=hd
  obtain⟨v',r',z,g1,g2⟩:=he
  cases z
  rw[fO.inj d e h1 g1,d_.inj ds es h2 g2]
end
mutual
theorem fO.keep {h h':Heap}(k:∀b o items n,h.get? b=some o->o.cls=.type "tuple"->o.data=.seq items n->h'.get? b=some o):∀(d:Dt) {v:Value},fO h d v->fO h' d v
 | .int i,v,hd=>hd
 | .str x,v,hd=>hd
 | .tup ds,v,hd=>by
  obtain⟨a,o,items,n,rfl,ho,hc,hdat,hi⟩:=hd
  exact⟨a,o,items,n,rfl,k _ _ _ _ ho hc hdat,hc,hdat,d_.keep k ds hi⟩
 | .bq,_,hd=>hd
 | .bl _,_,hd=>hd.elim
 | .lst _,_,hd=>hd.elim
theorem d_.keep {h h':Heap}(k:∀b o items n,h.get? b=some o->o.cls=.type "tuple"->o.data=.seq items n->h'.get? b=some o):∀(ds:List Dt) {vs:List Value},d_ h ds vs->d_ h' ds vs
 | [],_,hd=>hd
 | d::ds,vs,hd=>by
  obtain⟨v,r,rfl,h1,h2⟩:=hd
  exact⟨v,r,rfl,fO.keep k d h1,d_.keep k ds h2⟩
end
mutual
theorem fO.reads {h:Heap}:∀(d:Dt) {v:Value},fO h d v->∃as,Reads h v d.py as
 | .int i,v,hd=>by obtain⟨t,rfl⟩:=hd; exact⟨_,.int i t⟩
 | .str x,v,hd=>by obtain⟨_,t,rfl⟩:=hd; exact⟨_,.str x t⟩
 | .tup ds,v,hd=>by
  obtain⟨a,o,items,n,rfl,ho,hc,hdat,hi⟩:=hd
  obtain⟨as,ra⟩:=d_.reads ds hi
  exact⟨_,.tuple ho hc hdat ra⟩
 | .bq,v,hd=>by obtain rfl:v=.none:=hd; exact⟨_,.none⟩
 | .bl _,_,hd=>hd.elim
 | .lst _,_,hd=>hd.elim
theorem d_.reads {h:Heap}:∀(ds:List Dt) {vs:List Value},d_ h ds vs->∃as,ReadsAll h vs (Dt.d9 ds) as
 | [],vs,hd=>by rw[show vs=[] from hd]; exact⟨_,.nil⟩
 | d::ds,vs,hd=>by
  obtain⟨v,r,rfl,h1,h2⟩:=hd
  obtain⟨as,ra⟩:=fO.reads d h1
  obtain⟨bs,rb⟩:=d_.reads ds h2
  exact⟨_,.cons ra rb⟩
end
mutual
noncomputable def fV:Dt->Bool
 | .bq=>true
 | .int _=>true
 | .str x=>PyData.strOk x
 | .tup ds=>fC ds
 | _=>false
noncomputable def fC:List Dt->Bool
 | []=>true
 | d::ds=>fV d&&fC ds
end
mutual
theorem fO.fV {h:Heap}:∀(d:Dt) {v:Value},fO h d v->fV d=true
 | .int i,v,hd=>rfl
 | .str x,v,hd=>hd.1
 | .tup ds,v,hd=>by
  obtain⟨a,o,items,n,rfl,ho,hc,hdat,hi⟩:=hd
  exact d_.fV ds hi
 | .bq,_,_=>rfl
 | .bl _,_,hd=>hd.elim
 | .lst _,_,hd=>hd.elim
theorem d_.fV {h:Heap}:∀(ds:List Dt) {vs:List Value},d_ h ds vs->fC ds=true
 | [],vs,hd=>rfl
 | d::ds,vs,hd=>by
  obtain⟨v,r,rfl,h1,h2⟩:=hd
  show (TB.fV d&&fC ds)=true
  rw[fO.fV d h1,d_.fV ds h2]
  rfl
end
mutual
theorem tQ:∀d:Dt,fV d=true->d.py.canLay0=true
 | .int i,_=>rfl
 | .str x,h=>h
 | .tup ds,h=>GB ds h
 | .bq,_=>rfl
 | .bl _,h=>nomatch h
 | .lst _,h=>nomatch h
theorem GB:∀ds:List Dt,fC ds=true->canLayAll0 (Dt.d9 ds)=true
 | [],_=>rfl
 | d::ds,h=>by
  have h':fV d=true/\fC ds=true:=zBn.mp h
  show (d.py.canLay0&&canLayAll0 (Dt.d9 ds))=true
  rw[tQ d h'.1,GB ds h'.2]
  rfl
end
mutual
theorem xS:∀d:Dt,fV d=true->d.py.depth=nv d
 | .int i,_=>rfl
 | .str x,_=>rfl
 | .tup ds,h=>by show depthAll (Dt.d9 ds)+1=fj ds+1; rw[Bq ds h]
 | .bq,_=>rfl
 | .bl _,h=>nomatch h
 | .lst _,h=>nomatch h
theorem Bq:∀ds:List Dt,fC ds=true->depthAll (Dt.d9 ds)=fj ds
 | [],_=>rfl
 | d::ds,h=>by
  have h':fV d=true/\fC ds=true:=zBn.mp h
  show max d.py.depth (depthAll (Dt.d9 ds))=max (nv d) (fj ds)
  rw[xS d h'.1,Bq ds h'.2]
end
mutual
theorem EY:∀d e:Dt,fV d=true->fV e=true->(eqv d.py e.py=true↔d=e)
 | .int i,.int j,_,_=>by show (i == j)=true↔_; simp
 | .int i,.str x,_,_=>by show false=true↔_; simp
 | .int i,.tup ds,_,_=>by show false=true↔_; simp
 | .str x,.int j,_,_=>by show false=true↔_; simp
 | .str x,.str y,_,_=>by show (x == y)=true↔_; simp
 | .str x,.tup ds,_,_=>by show false=true↔_; simp
 | .tup ds,.int j,_,_=>by show false=true↔_; simp
 | .tup ds,.str x,_,_=>by show false=true↔_; simp
 | .tup ds,.tup es,h1,h2=>by
  show eqvAll (Dt.d9 ds) (Dt.d9 es)=true↔_
  rw[GC ds es h1 h2]
  simp
 | .bq,.bq,_,_=>by show true=true↔_; simp
 | .bq,.int _,_,_=>by show false=true↔_; simp
 | .bq,.str _,_,_=>by show false=true↔_; simp
 | .bq,.tup _,_,_=>by show false=true↔_; simp
 | .int _,.bq,_,_=>by show false=true↔_; simp
 | .str _,.bq,_,_=>by show false=true↔_; simp
 | .tup _,.bq,_,_=>by show false=true↔_; simp
 | .bl _,_,h,_=>nomatch h
 | .lst _,_,h,_=>nomatch h
 | _,.bl _,_,h=>nomatch h
 | _,.lst _,_,h=>nomatch h
theorem GC:∀ds es:List Dt,fC ds=true->fC es=true->(eqvAll (Dt.d9 ds) (Dt.d9 es)=true↔ds=es)
 | [],[],_,_=>by simp [Dt.d9,eqvAll]
 | [],e::es,_,_=>by simp [Dt.d9,eqvAll]
 | d::ds,[],_,_=>by simp [Dt.d9,eqvAll]
 | d::ds,e::es,h1,h2=>by
  have RE:fV d=true/\fC ds=true:=zBn.mp h1
  have h2':fV e=true/\fC es=true:=zBn.mp h2
  show (eqv d.py e.py&&eqvAll (Dt.d9 ds) (Dt.d9 es))=true↔_
  rw[zBy,EY d e RE.1 h2'.1,GC ds es RE.2 h2'.2]
  simp
end
section
variable {prog:Program}{w:World}{E:zzE}
mutual
theorem GD:∀(d:Dt) (v:Value) (A:Around) (s:Shared) (Q:Int->Shared->Prop),fO s.heap d v->A.units+nv d < cLine->Q (jU prog w d) { s with toks:=s.toks+Ak d }->wpAny (model prog w) A (pyHash v) Q E s
 | .int i,v,A,s,Q,hd,hu,q=>by
  obtain⟨t,rfl⟩:=hd
  exact (intKind prog w).pyHash (k:=i) (by show (i == i)=true; simp) q
 | .str x,v,A,s,Q,hd,hu,q=>by
  obtain⟨_,t,rfl⟩:=hd
  exact (strKind prog w).pyHash (k:=x) (by show (x == x)=true; simp) q
 | .tup ds,v,A,s,Q,hd,hu,q=>by
  obtain⟨a,o,items,n,rfl,ho,hc,hdat,hi⟩:=hd
  have Kq:A.units+(fj ds+1) < cLine:=hu
  refine PySem.W.pyHash_slot (T:="tuple") ⟨_,ho,hc⟩ F.slot_tuple_hash F.entry_tuple_hash (F.args_tuple_hash_1 _) (beq_builtin_none _) (.inr (by omega)) ?_
  show wpAny _ _ (Builtin.Tuple.tupleItemsOf (.ref a) >>= _) _ _ s
  refine yB (wpAny_tupleItemsOf ho hdat ?_)
  refine yB ?_
  rw[←zC5]
  refine Ds ds _ A.in1 s #[] _ hi (by rw[Around.in1_units]; omega) ?_
  intro b hb
  show wpAny _ _ (retInt (tupleHashOf b.toList)) _ _ _
  rw[hb]
  refine yB (wpAny_mkInt (y6 ⟨_,_,rfl,?_⟩))
  exact q
 | .bq,v,A,s,Q,hd,hu,q=>by
  obtain rfl:v=.none:=hd
  refine PySem.W.pyHash_slot (T:="NoneType") rfl F.slot_NoneType_hash F.entry_NoneType_hash (F.args_NoneType_hash_1 _) (beq_builtin_none _) (.inl rfl) ?_
  show wpAny _ _ (retInt 0xFCA86420) _ _ s
  exact yB (wpAny_mkInt (y6 ⟨_,_,rfl,q⟩))
 | .bl _,_,_,_,_,hd,_,_=>hd.elim
 | .lst _,_,_,_,_,hd,_,_=>hd.elim
theorem Ds:∀(ds:List Dt) (vs:List Value) (A:Around) (s:Shared) (b:Array Int) (Q:Array Int->Shared->Prop),d_ s.heap ds vs->A.units+fj ds < cLine->
  (∀b',b'.toList=b.toList++mR prog w ds->Q b' { s with toks:=s.toks+rR ds })->
  wpAny (model prog w) A (forIn vs b λx r=>do let h ←pyHash x; pure PUnit.unit; pure (ForInStep.yield (r.push h))) Q E s
 | [],vs,A,s,b,Q,hd,hu,q=>by
  rw[show vs=[] from hd]
  exact y6 (q b (by simp [mR]))
 | d::ds,vs,A,s,b,Q,hd,hu,q=>by
  obtain⟨v,r,rfl,h1,h2⟩:=hd
  have Kq:A.units+max (nv d) (fj ds) < cLine:=hu
  rw[zEf]
  refine yB (yB (GD d _ A s _ h1 (by omega) ?_))
  refine yB (y6 (y6 ?_))
  refine Ds ds _ A _ _ Q h2 (by omega) λb' hb=>?_
  have:=q b' (by simp [hb,mR])
  rw[show s.toks+rR (d::ds)=s.toks+Ak d+rR ds by rw[Nat.add_assoc]; rfl] at this
  exact this
end
mutual
theorem Dv:∀(d:Dt) (k:Nat) (v:Value) (A:Around) (s:Shared) (Q:Bool->Shared->Prop),fO s.heap d v->nv d<=k->Q true s->wpAny (model prog w) A (eqIsQuiet k v) Q E s
 | .int i,k,v,A,s,Q,hd,hk,q=>by
  obtain⟨t,rfl⟩:=hd
  rw[eqIsQuiet_byValue _ (by rfl)]
  exact y6 q
 | .str x,k,v,A,s,Q,hd,hk,q=>by
  obtain⟨_,t,rfl⟩:=hd
  rw[eqIsQuiet_byValue _ (by rfl)]
  exact y6 q
 | .tup ds,k,v,A,s,Q,hd,hk,q=>by
  have hk0:fj ds+1<=k:=hk
  obtain⟨k,rfl⟩:∃k',k=k'+1:=⟨k - 1,by omega⟩
  obtain⟨a,o,items,n,rfl,ho,hc,hdat,hi⟩:=hd
  have hT:s.TypeIs (.ref a) "tuple":=⟨o,ho,hc⟩
  have hk':fj ds<=k:=Nat.le_of_succ_le_succ hk
  unfold eqIsQuiet
  refine yB (zEd hT F.slot_tuple_eq.lookup ?_)
  show wpAny _ _ (isInstance (.ref a) (.type "tuple") >>= _) _ _ s
  refine yB (zD5 hT isSubtype_tuple_tuple ?_)
  simp only [zDw,zAi,zBa]
  refine yB (zCk ho hdat ?_)
  refine yB ?_
  show wpAny _ _ (forIn items _ _) _ _ s
  rw[←zC5]
  refine zD4 _ (λrest r s'=>r.1=none/\s'=s/\∃es,d_ s.heap es rest/\fj es<=k/\∀e∈es,e∈ds) _ ?_ ?_ _ _ ⟨rfl,rfl,ds,hi,hk',λe he=>he⟩
  ·rintro v rest r s' ⟨hr,rfl,es,hes,hke,hsub⟩
   cases es with
   | nil=>cases (show v::rest=[] from hes)
   | cons e es=>
    obtain⟨v',r',z,h1,h2⟩:=hes
    cases z
    have Xr:max (nv e) (fj es)<=k:=hke
    refine yB (Bs ds e (hsub e zAs) k _ _ _ _ h1 (by omega) ?_)
    simp only [zDw,zAi,zBa]
    exact y6 ⟨rfl,rfl,es,h2,by omega,λe' he'=>hsub e' (zAr _ he')⟩
  ·rintro⟨r1,r2⟩ s' ⟨hr,rfl,_⟩
   simp only at hr
   subst hr
   exact y6 q
 | .bq,k,v,A,s,Q,hd,hk,q=>by
  obtain rfl:v=.none:=hd
  rw[eqIsQuiet_byValue _ (by rfl)]
  exact y6 q
 | .bl _,_,_,_,_,_,hd,_,_=>hd.elim
 | .lst _,_,_,_,_,_,hd,_,_=>hd.elim
theorem Bs:∀(ds:List Dt) (d:Dt),d∈ds->∀(k:Nat) (v:Value) (A:Around) (s:Shared) (Q:Bool->Shared->Prop),fO s.heap d v->nv d<=k->Q true s->wpAny (model prog w) A (eqIsQuiet k v) Q E s
 | [],d,h=>nomatch h
 | e::es,d,h=>λk v A s Q hd hk q=>by
  by_cases z:e=d
  ·subst z
   exact Dv e k v A s Q hd hk q
  ·exact Bs es d (by rcases wS.mp h with y | y; exact absurd y.symm z; exact y) k v A s Q hd hk q
end
end
noncomputable instance Xh:DecidableEq Dt:=λ_ _=>Classical.propDecidable _
noncomputable def Tr (h:Heap)(d:Dt)(a:Addr):Prop:=(∃ds,d=.tup ds)/\nv d<=8/\fO h d (.ref a)
noncomputable def mw (prog:Program) (w:World):HeapKind prog w Dt where
 is:=Tr
 hash:=jU prog w
 draws:=Ak
 room:=λA=>A.units+8 < cLine
 inj:=λhx hy=>fO.inj _ _ hx.2.2 hy.2.2
 keeps:=λ{h h' k a d o es ep} x ho hd hs=>⟨x.1,x.2.1,fO.keep (λb o' items n e c dt=>(hs.2 b λz=>by
  subst z
  rw[ho] at e; cases e
  rw[hd] at dt; cases dt).trans e) _ x.2.2⟩
 pyHash:=λhu hk h=>GD _ _ _ _ _ hk.2.2 (by have:=hk.2.1; omega) h
 eqBool:=λ{A E s x y a b Q} hu hx hy h=>by
  obtain⟨as,ra⟩:=fO.reads x hx.2.2
  obtain⟨bs,rb⟩:=fO.reads y hy.2.2
  have i1:=fO.fV x hx.2.2
  have i2:=fO.fV y hy.2.2
  have d1:=xS x i1
  have k1:=hx.2.1
  refine SeqAt.eqAt_reads x.py y.py A s _ _ as bs ra rb (tQ x i1) (tQ y i2) (by rw[d1]; omega) prog w E Q ?_
  rw[show eqv x.py y.py=decide (x=y) by rw[zCe,EY x y i1 i2,decide_eq_true_iff]]
  exact h
 quiet:=λhk h=>Dv _ 8 _ _ _ _ hk.2.2 hk.2.1 h
end TB
namespace L2
open PySem PySem.Spec PyProof.Rows
section
variable {κ:Type}[DecidableEq κ]
theorem mZ.getD {o:Option V}{u:Option Value}{d:V}{d':Value}(r:mZ o u)(rd:RelV d d'):RelV (o.getD d) (u.getD d'):=by
 cases o with
 | none=>cases u with
  | none=>exact rd
  | some _=>exact (show False from r).elim
 | some _=>cases u with
  | none=>exact (show False from r).elim
  | some _=>exact r
end
section
variable {P:Program}{w:World}{H:Hp}{h:Heap}{a:Addr}
end
section
variable {X:Cx}{pins:zzC}{σ:St}{H:Hp}{s:Shared}{a:Addr}{y v:V}{u r:Value}{o:Option V}{A:Around}{E:zzE}
theorem Inv.big (I:Inv X pins σ H s):sysModules < s.heap.objs.size:=by
 have h:mainGlobals < s.heap.objs.size:=(I.mod.glob.keeps I.bk).lt
 exact zD6 (by decide) h
theorem Dw {h':Heap}{t':Nat}{ob:HO}(I:Inv X pins σ H s)(mu:uq (H a))(hs:Heap.SameBut a s.heap h')(he:∃q,h'.get? a=some q)(new:bR X.prog X.w (upd H a ob) h' a ob) :
  Inv X pins σ (upd H a ob) { s with heap:=h',toks:=t' }:=
 I.write (x:=a) (e:=a) mu (.inl rfl) (λb q hb z=>(hs.2 b hb).trans z) he new
end
section
variable {X:Cx}{pins:zzC}{σ:St}{H:Hp}{s:Shared}{a:Addr}{kvs:List (Key × V)}{k:Key}{u:Value}{A:Around}{E:zzE}
end
noncomputable def Ox (i:Expr):Prop:=∀ov iv,subscripted i false ov iv=operate [ov,iv] (getItem ov iv)
theorem Mc {prog:Program}{w:World}{A:Around}{E:zzE}{s:Shared}{env:Env}{value slice:Expr}{pos:Pos}{T id:String}{Q:zzE}
  (hl:typeLookup (.type T) "__getitem__"=pure (some (.builtin id))) (hs:Ox slice)
  (h:wpAny (model prog w) A (eval value env) (λo s₁=>wpAny (model prog w) A (eval slice env) (λi s₂=>s₂.TypeIs o T/\wpAny (model prog w) A (getItem o i) Q E s₂) E s₁) E s) :
  wpAny (model prog w) A (eval (.Subscript value slice pos) env) Q E s:=by
 refine Subscript_ (zCw h (λo s₁ h₁=>zCw h₁ (λi s₂ h₂=>?_) λ_ _ x=>x) λ_ _ x=>x)
 obtain⟨hT,h₂⟩:=h₂
 unfold subscriptTail
 refine yB ?_
 rw[getitemInPython_of_ne hT.not_modules]
 refine yB (zEd hT hl ?_)
 have fin:wpAny (model prog w) A (subscripted slice false o i) (λr s₃=>wpAny (model prog w) A (letTemporaryGo value o r >>= λ_=>pure r) Q E s₃) E s₂:=by
  rw[hs o i]
  exact wpAny_operating (zCw h₂ (λr s₃ h₃=>yB (wpAny_letTemporaryGo (y6 h₃))) λ_ _ x=>x)
 first
  | exact y6 (yB fin)
  | exact yB (y6 (yB fin))
  | exact yB fin
section
variable {X:Cx}{o i e value:Expr}{pos pos' tpos:Pos}{td ty tv:TE}
end
section
variable {X:Cx}{pos:Pos}
end
structure M2 (X:Cx)(o:Expr)(m:Str)(apos:Pos)(e f:Expr)(cpos:Pos):Prop where
 base:attributeBase o m X.env (eval o X.env)=eval o X.env
 few:((backTo cpos (starEach [e,f] X.env)).all (λx=>!x.1)&&(backToKw cpos (keywordEach [] X.env)).all (λx=>x.1.isSome)
  &&decide (([e,f]:List Expr).length+([]:List Keyword).length+(if ([]:List Keyword).isEmpty then 0 else 1) < 30))=true
 line:(apos.endLine == cpos.line)=true
 trees:backTo cpos (starEach [e,f] X.env)=[(false,eval e X.env),(false,eval f X.env)]
section
variable {X:Cx}{pins:zzC}{σ:St}{H:Hp}{s:Shared}{a:Addr}{y d:V}{u r:Value}{o:Option V}{A:Around}{E:zzE}
end
section
variable {X:Cx}{o e f:Expr}{apos cpos:Pos}{td ty tx:TE}
end
section
variable {X:Cx}{pins:zzC}{σ:St}{H:Hp}{s:Shared}{a:Addr}{kvs:List (Key × V)}{A:Around}{E:zzE}
end
section
variable {X:Cx}{pins:zzC}{σ:St}{H:Hp}{s:Shared}{a:Addr}{y:V}{u:Value}{A:Around}{E:zzE}
end
section
variable {κ:Type}[DecidableEq κ]
end
open TB
theorem mS {K:zzA}{H:Hp}{c q:Addr}{xs:List V}{o:HO}(mu:uq (H c))(h:aJ K H q xs):aJ K (upd H c o) q xs:=by
 rcases h with (h | ⟨u,h⟩) | h
 ·exact .inl (.inl (by rw[aT (λz=>by subst z; rw[h] at mu; exact mu)]; exact h))
 ·exact .inl (.inr ⟨u,by rw[aT (λz=>by subst z; rw[h] at mu; exact mu)]; exact h⟩)
 ·exact .inr h
mutual
theorem Bt {K:zzA}{H H':Hp}(k:∀q xs,aJ K H q xs->aJ K H' q xs):∀(d:Dt) {v:V},fV d=true->Rep K H d v->Rep K H' d v
 | .int i,v,_,h=>by unfold Rep at h ⊢; exact h
 | .str x,v,_,h=>by unfold Rep at h ⊢; exact h
 | .tup ds,v,n,h=>by
  unfold Rep at h ⊢
  obtain⟨a,xs,rfl,q,r⟩:=h
  exact⟨a,xs,rfl,k _ _ q,wC k ds n r⟩
 | .bq,v,_,h=>by unfold Rep at h ⊢; exact h
 | .bl _,_,n,_=>nomatch n
 | .lst _,_,n,_=>nomatch n
theorem wC {K:zzA}{H H':Hp}(k:∀q xs,aJ K H q xs->aJ K H' q xs):∀(ds:List Dt) {vs:List V},fC ds=true->aF K H ds vs->aF K H' ds vs
 | [],vs,_,h=>by unfold aF at h ⊢; exact h
 | d::ds,vs,n,h=>by
  have n':fV d=true/\fC ds=true:=zBn.mp n
  unfold aF at h ⊢
  obtain⟨v,r,rfl,h1,h2⟩:=h
  exact⟨v,r,rfl,Bt k d n'.1 h1,wC k ds n'.2 h2⟩
end
section
variable {X:Cx}{pins:zzC}{σ:St}{H:Hp}{s:Shared}
mutual
theorem GF (I:Inv X pins σ H s):∀(d:Dt) {x:V} {u:Value},fV d=true->Rep X.K H d x->RelV x u->fO s.heap d u
 | .int i,x,u,_,h,r=>by unfold Rep at h; subst h; exact r
 | .str z,x,u,n,h,r=>by unfold Rep at h; subst h; exact⟨n,r⟩
 | .tup ds,x,u,n,h,r=>by
  unfold Rep at h
  obtain⟨a,xs,rfl,q,rr⟩:=h
  cases r
  obtain⟨its,r1,⟨o,ho,hc,n',hd⟩,_⟩:=I.tuple q
  exact⟨a,o,its.toArray,n',rfl,ho,hc,hd,by simpa using Dy I ds n rr r1⟩
 | .bq,x,u,_,h,r=>by unfold Rep at h; subst h; exact r
 | .bl _,_,_,n,_,_=>nomatch n
 | .lst _,_,_,n,_,_=>nomatch n
theorem Dy (I:Inv X pins σ H s):∀(ds:List Dt) {xs:List V} {us:List Value},fC ds=true->aF X.K H ds xs->Vals xs us->d_ s.heap ds us
 | [],xs,us,_,h,r=>by unfold aF at h; subst h; cases r; rfl
 | d::ds,xs,us,n,h,r=>by
  have n':fV d=true/\fC ds=true:=zBn.mp n
  unfold aF at h
  obtain⟨x,xr,rfl,q,t⟩:=h
  cases r with
  | cons rx Of=>exact⟨_,_,rfl,GF I d n'.1 q rx,Dy I ds n'.2 t Of⟩
end
end
noncomputable def NK (K:zzA)(H:Hp)(d:Dt)(a:Addr):Prop:=(∃ds,d=.tup ds)/\nv d<=8/\fV d=true/\Rep K H d (.ref a)
theorem NK.of {K:zzA}{H:Hp}{ds:List Dt}{a:Addr}{xs:List V}(h:aJ K H a xs)(r:aF K H ds xs)(hn:fC ds=true)(hd:fj ds<=7):NK K H (.tup ds) a:=
 ⟨⟨ds,rfl⟩,Nat.succ_le_succ hd,hn,by unfold Rep; exact⟨a,xs,rfl,h,r⟩⟩
theorem NK.tups {K:zzA}{H H':Hp}{d:Dt}{a:Addr}(h:NK K H d a)(k:∀q xs,aJ K H q xs->aJ K H' q xs):NK K H' d a:=⟨h.1,h.2.1,h.2.2.1,Bt k _ h.2.2.1 h.2.2.2⟩
theorem NK.key {X:Cx}{pins:zzC}{σ:St}{H:Hp}{s:Shared}{d:Dt}{a:Addr}(I:Inv X pins σ H s)(h:NK X.K H d a):(mw X.prog X.w).is s.heap d a:=⟨h.1,h.2.1,GF I d h.2.2.1 h.2.2.2 rfl⟩
noncomputable def EZ (P:Program)(w:World)(h:Heap)(S:Addr)(ds:List (Dt × Addr × Value)):Prop:=(S == sysModules)=false/\∃o es ep,h.get? S=some o/\o.ExactDict/\o.data=.dict es ep/\es.toList=ds.map (entryOfKey (mw P w))/\(ds.map (·.1)).Nodup
noncomputable def wD (P:Program)(w:World)(S:Addr)(ds:List (Dt × Addr × Value)):HO:=.ext λh=>EZ P w h S ds
theorem Bu {P:Program}{w:World}{H:Hp}{h:Heap}{S:Addr}{ds:List (Dt × Addr × Value)}(x:EZ P w h S ds):bR P w H h S (wD P w S ds):=by
 obtain⟨x0,o,es,ep,ho,r⟩:=id x
 refine⟨x,⟨o,ho⟩,λh1 h2 y k=>?_⟩
 obtain⟨y0,o1,es1,UT,A6,r1⟩:=y
 exact⟨y0,o1,es1,UT,k _ A6,r1⟩
noncomputable def gO (K:zzA)(P:Program)(w:World)(H:Hp)(a:Addr)(m:Dt->Option V)(n:Nat):Prop:=
 ∃ds:List (Dt × Addr × Value),H a=some (wD P w a ds)/\ds.length<=n/\(∀x∈ds,NK K H x.1 x.2.1)/\∀k,mZ (m k) ((atKey ds k).map (·.2))
section
variable {K:zzA}{P:Program}{w:World}{H H':Hp}{a:Addr}{m:Dt->Option V}{n:Nat}
theorem gO.mut (h:gO K P w H a m n):uq (H a):=by
 obtain⟨ds,e,_⟩:=h
 rw[e]
 exact True.intro
theorem gO.keep (h:gO K P w H a m n)(e:H' a=H a)(k:∀q xs,aJ K H q xs->aJ K H' q xs):gO K P w H' a m n:=by
 obtain⟨ds,e1,e2,e3,e4⟩:=h
 exact⟨ds,by rw[e]; exact e1,e2,λx hx=>(e3 x hx).tups k,e4⟩
theorem gO.same (h:gO K P w H a m n)(s:ai H H'):gO K P w H' a m n:=by
 refine h.keep ?_ λq xs h=>s.tup h
 obtain⟨ds,e1,_⟩:=h
 rw[e1]
 exact s _ _ e1
end
theorem xT (ds:List (Dt × Addr × Value))(k:Dt)(v:Value)(k':Dt):(atKey (ds.map (putAt k v)) k').map (·.2)=if k'=k then (atKey ds k').map λ_=>v else (atKey ds k').map (·.2):=by
 induction ds with
 | nil=>simp [atKey]
 | cons x xs ih=>
  unfold atKey at ih ⊢
  rw[zAo,find?_cons,find?_cons]
  have e1:(putAt k v x).1=x.1:=by unfold putAt; split <;> rfl
  rw[e1]
  by_cases hx:x.1=k'
  ·rw[zAm hx]
   by_cases hk:k'=k
   ·rw[x4 hk]
    simp [putAt,hx,hk]
   ·rw[xL hk]
    have:¬ x.1=k:=λz=>hk (by rw[←hx,z])
    simp [putAt,this]
  ·rw[zAv hx]
   exact ih
theorem GG (ds:List (Dt × Addr × Value))(k:Dt)(b:Addr)(v:Value)(k':Dt):(atKey (storedH ds k b v) k').map (·.2)=if k'=k then some v else (atKey ds k').map (·.2):=by
 unfold storedH
 split
 ·rename_i h
  rw[xT]
  split
  ·rename_i e
   subst e
   obtain⟨p,hp⟩:=Option.isSome_iff_exists.mp h
   rw[hp]; rfl
  ·rfl
 ·rename_i h
  have hn:atKey ds k=none:=by
   cases e:atKey ds k with
   | none=>rfl
   | some p=>rw[e] at h; exact absurd rfl h
  unfold atKey at hn ⊢
  rw[List.find?_append]
  by_cases e:k'=k
  ·subst e
   rw[Option.map_eq_none_iff.mp hn]
   simp
  ·rw[xL e]
   have:¬ k=k':=λz=>e z.symm
   simp [this]
noncomputable def Oz (K:zzA)(P:Program)(w:World)(H:Hp)(a:Addr)(y:V)(r:Option V):Prop:=∃m n d b,gO K P w H a m n/\y=.ref b/\NK K H d b/\r=m d
section
variable {X:Cx}{pins:zzC}{σ:St}{H:Hp}{s:Shared}{a:Addr}{y v:V}{u r:Value}{o:Option V}{A:Around}{E:zzE}{m:Dt->Option V}{n:Nat}
theorem xU (I:Inv X pins σ H s)(h:gO X.K X.prog X.w H a m n):(a == sysModules)=false/\∃ds,s.heap.DictOfH (mw X.prog X.w) a ds/\H a=some (wD X.prog X.w a ds)/\ds.length<=n/\(∀x∈ds,NK X.K H x.1 x.2.1)/\∀k,mZ (m k) ((atKey ds k).map (·.2)):=by
 obtain⟨ds,e,hl,hk,hm⟩:=h
 obtain⟨⟨x0,o,es,ep,ho,e1,e2,e3,e4⟩,_⟩:=(show bR X.prog X.w H s.heap a (wD X.prog X.w a ds) from I.hok a _ e)
 exact⟨x0,ds,⟨o,es,ep,ho,e1,e2,e3,λx hx=>(hk x hx).key I,e4⟩,e,hl,hk,hm⟩
theorem Al (hu:A.units+9 < cLine):(mw X.prog X.w).room A.in1:=by
 show A.in1.units+8 < cLine
 rw[Around.in1_units]
 omega
end
noncomputable def QS (K:zzA)(P:Program)(w:World):TE:=λ_ H Q=>∀p o,H p=none->gO K P w (upd H p o) p (λ_=>none) 0->Q (.ref p) (upd H p o)
section
variable {X:Cx}{o i e value:Expr}{pos pos' tpos:Pos}{td ty tv:TE}(K:zzA)(P:Program)(w:World)
theorem QT (hK:X.K=K:=by rfl)(hP:X.prog=P:=by rfl)(hw:X.w=w:=by rfl):PE X (.Dict [] [] pos) (QS K P w):=by
 subst hK; subst hP; subst hw
 intro pins s σ H Q I h
 have raw:EZ X.prog X.w (s.heap.push { cls:=.type "dict",data:=.dict #[] }) s.heap.objs.size []:=⟨zD9.mpr (Ne.symm (zAn I.big)),_,#[],0,wE _ rfl,⟨rfl,rfl,rfl⟩,rfl,rfl,nodup_nil⟩
 exact wpAny_Dict_empty ⟨.ref s.heap.objs.size,_,I.laid (a:=s.heap.objs.size) (o:=wD X.prog X.w s.heap.objs.size []) (t':=s.toks) (λ_ _ q=>y8 _ q) (x3 _) (Bu raw),rfl,h _ _ (I.hok.fresh (x3 _)) ⟨[],aA,x3 _,λx hx=>absurd hx (by simp),λk=>True.intro⟩⟩
end
end L2
namespace TB
open PySem PySem.Spec PySem.W PyProof.Rows
section
variable {prog:Program}{w:World}{A:Around}{E:zzE}{s:Shared}
set_option maxHeartbeats 1000000 in
theorem zd {r:Value}{C:Heap->zzD->Prop}{Q:zzE}(hh:A.handled=none)
  (col:∀(A':Around) (E':zzE) (R:List Value->Shared->Prop),A'.handled=none->(∀(h1:Heap) (tk:Nat) (qs:zzD),(∀b o,s.heap.get? b=some o->h1.get? b=some o)->C h1 qs->R (qs.map rf) { s with heap:=h1,toks:=tk })->wpAny (model prog w) A' (collect r) R E' s)
  (hC:∀h1 qs,C h1 qs->(∀p∈qs,IsTupleKey (intKind prog w) h1 p.2 p.1)/\(∀p∈qs,p.2≠[])/\(qs.map (·.2)).Nodup/\qs.length < 100000)
  (h:∀(h1:Heap) (qs:zzD) (h':Heap) (tk:Nat) (l:Addr) (ps':zzD) (c:Nat),C h1 qs->(∀b o,s.heap.get? b=some o->h1.get? b=some o)->(∀b o,h1.get? b=some o->h'.get? b=some o)->h1.get? l=none->h'.get? l=some (seqObj "list" (ps'.map rf).toArray c)->ps'.Perm qs->ps'.Pairwise (λp q=>HT.lexLt p.2 q.2=true)->Q (.ref l) { s with heap:=h',toks:=tk }) :
  wpAny (model prog w) A (call (.builtin "sorted") [r]) Q E s:=by
 refine Calls.call_function_entry kind_sorted plain_sorted entry_sorted (args_sorted1 _) ?_
 unfold Builtin.«sorted»
 refine yB (m:=checkCount "sorted" 1 1 _) (y6 ?_)
 refine yB (col _ _ _ (by simp [hh]) λh1 tk qs keep1 hc=>?_)
 obtain⟨tups,hne,nd,h64⟩:=hC h1 qs hc
 refine yB (wpAny_newList ?_ (by rw[y3,zAk]; omega))
 have hL:(h1.push (seqObj "list" (qs.map rf).toArray 0)).get? h1.objs.size=some (seqObj "list" (qs.map rf).toArray 0):=wE _ rfl
 have keep2:∀b o,h1.get? b=some o->(h1.push (seqObj "list" (qs.map rf).toArray 0)).get? b=some o:=λb o e=>y8 _ e
 have new1:h1.get? h1.objs.size=none:=by
  cases e:h1.get? h1.objs.size with
  | none=>rfl
  | some o'=>exact absurd (kA e) (zB6 _)
 show wpAny _ _ _ _ _ { s with heap:=h1.push (seqObj "list" (qs.map rf).toArray 0),toks:=tk }
 have EM:∀p∈qs,IsTupleKey (intKind prog w) (h1.push (seqObj "list" (qs.map rf).toArray 0)) p.2 p.1:=λp hp=>g9 (tups p hp) λo e=>keep2 _ o e
 generalize h1.push (seqObj "list" (qs.map rf).toArray 0)=h2 at *
 generalize h1.objs.size=l at hL new1 ⊢
 refine yB (zBs (zBe slot_list_sort ⟨_,hL,rfl⟩ entry_list_sort ?_ (args_list_sort _)))
 refine qA (s:={ s with heap:=h2,toks:=tk }) hL EM hne nd h64 λh3 ps' c kp hl3 pm pw=>?_
 refine⟨_,rfl,y6 ⟨_,rfl,h h1 qs h3 tk l ps' c hc keep1 (λb o e=>kp b o (λz=>?_) (keep2 b o e)) new1 hl3 pm pw⟩⟩
 rw[z,new1] at e
 cases e
end
end TB
namespace L2
open PySem PySem.Spec PyProof.Rows TB
section
variable {X:Cx}{pins:zzC}{σ:St}{H H':Hp}{s:Shared}{h':Heap}
theorem Inv.more {t':Nat}(I:Inv X pins σ H s)(k:∀b u,s.heap.get? b=some u->h'.get? b=some u)(ext:∀b o,H b=some o->H' b=some o)
  (new:∀b o,H b=none->H' b=some o->s.heap.get? b=none/\bR X.prog X.w H' h' b o):Inv X pins σ H' { s with heap:=h',toks:=t' }:=by
 have fr:∀b u,s.heap.get? b=some u->H b=none->H' b=none:=λb u q n=>by
  cases e:H' b with
  | none=>rfl
  | some o=>have z:=(new b o n e).1; rw[q] at z; cases z
 refine I.un ⟨λb u q _ _ _=>k b u q,λb u q _ _ _=>⟨u.slots,k b u q⟩,λb u q n _=>fr b u q n,λb u q _=>⟨u,k b u q⟩,λb xs q=>ext _ _ q,λb o u q=>ext _ _ q,λb ps q=>⟨#[],by rw[ext _ _ q]; simp⟩⟩ λb u e=>?_
 cases q:H b with
 | none=>exact (new b u q e).2
 | some o=>
  have:=ext b o q
  rw[this] at e
  cases e
  exact (I.hok b _ q).stay (λc v _ z=>k c v z) (λc z=>ext _ _ z) λc xs z=>ext _ _ z
theorem Inv.ze (I:Inv X pins σ H s){a:Addr}(e:s.heap.get? a=none):H a=none:=by
 cases q:H a with
 | none=>rfl
 | some o=>
  obtain⟨ob,h⟩:=(I.hok a o q).obj
  rw[e] at h
  cases h
noncomputable def vc (K:zzA):List V->Hp->VK->Prop:=λxs H Q=>∃(L:Addr) (ps:zzD),xs=[.ref L]/\aD K H L (ps.map rv)/\(∀p∈ps,aJ K H p.1 (p.2.map V.int))/\(∀p∈ps,p.2≠[])/\(ps.map (·.2)).Nodup/\ps.length < 100000/\
 ∀(l:Addr) (qs:zzD),H l=none->qs.Perm ps->qs.Pairwise (λp q=>HT.lexLt p.2 q.2=true)->Q (.ref l) (upd H l (.lst (qs.map rv)))
theorem Bv (hc:X.calm=true):dg X (.builtin "sorted") (vc X.K):=by
 intro pins s σ H xs us Q I r h
 obtain⟨L,ps,rfl,hL,ht,hne,nd,h64,q⟩:=h
 obtain⟨u,rfl,ru⟩:=vals1 r
 cases ru
 obtain⟨its,r',pl,hz⟩:=I.list hL
 rw[nV r'] at pl
 refine TB.zd (C:=λh1 qs=>qs=ps/\∀b o,s.heap.get? b=some o->h1.get? b=some o) (I.ok.hd hc) (λA' E' R ha k=>?_) ?_ λh1 qs h2 tk l ps' c ⟨e,kp⟩ _ kp2 hle hl pm pw=>?_
 ·refine collect_list (vs:=ps.map TB.rf) pl.isList ?_ (by rw[y3,zAk]; omega)
  have kp:∀b o,s.heap.get? b=some o->((s.heap.push (seqObj "list" #[] 0)).update s.heap.objs.size (mapSeq (·++(ps.map TB.rf).toArray))).get? b=some o:=λb o e=>by
   rw[zBg _ _ (zCr (kA e))]
   exact y8 _ e
  exact k _ s.toks ps kp ⟨rfl,kp⟩
 ·rintro h1 qs ⟨rfl,kp⟩
  exact⟨λp hp=>TB.g9 (I.key (ht p hp)) λo e=>kp _ _ e,hne,nd,h64⟩
 ·subst e
  have hz:(ps'.map rv).length<=sizeLine:=by rw[y3,pm.length_eq,zAk]; omega
  have kk:∀b o,s.heap.get? b=some o->h2.get? b=some o:=λb o e=>kp2 _ _ (kp _ _ e)
  have hs0:s.heap.get? l=none:=by
   cases e:s.heap.get? l with
   | none=>rfl
   | some o=>rw[kp _ _ e] at hle; cases hle
  have hn:H l=none:=I.ze hs0
  exact⟨.ref l,_,I.more (H':=upd H l (.lst (ps'.map rv))) (t':=tk) kk (ai.new hn _) (λb o n e=>by
   by_cases z:b=l
   ·subst z
    rw[aA] at e
    cases e
    exact⟨hs0,hz,ps'.map TB.rf,c,nW ps',hl⟩
   ·rw[aT z,n] at e
    cases e),rfl,q _ ps' hn pm pw⟩
end
open PySem.W
section
variable {X:Cx}{pins:zzC}{σ:St}{H H':Hp}{s:Shared}{h':Heap}
end
section
variable {prog:Program}{w:World}{A:Around}{E:zzE}{s:Shared}
end
section
variable {X:Cx}
end
section
variable {X:Cx}(K:zzA)
theorem vd (h:X.K=K:=by rfl)(hc:X.calm=true:=by rfl):dg X (.builtin "sorted") (vc K):=h ▸ Bv hc
end
end L2
namespace TB
open PySem PySem.Spec
section
variable {prog:Program}{w:World}{A:Around}{E:zzE}{s:Shared}
end
end TB
namespace L2
open PySem PySem.Spec PyProof.Rows TB PySem.W
section
variable {prog:Program}{w:World}{A:Around}{E:zzE}{s:Shared}
variable {I:Addr}{fp wr:List Addr}{n:Nat}{P:Nat->Value->Prop}{St:Nat->Heap->Prop}{R:Result->Shared->Prop}
end
section
variable {X:Cx}
end
section
variable {X:Cx}(K:zzA)
end
noncomputable def OA (n:Nat)(f:Nat->List V):It:=⟨λi _=>i < n,λi H v H'=>∃t,v=.ref t/\H t=none/\H'=upd H t (.tup (f i)),λi _=>i=n⟩
section
variable {X:Cx}
theorem Inv.moved {pins:zzC}{σ:St}{H:Hp}{s:Shared}{h':Heap}{t':Nat}{ch:List Addr}(I:Inv X pins σ H s)(hf:∀c∈ch,iX X pins H c)(kp:∀c o,c∉ch->s.heap.get? c=some o->h'.get? c=some o) :
  Inv X pins σ H { s with heap:=h',toks:=t' }:=by
 refine I.step (g':=s.gens) (d':=s.drawn) (t':=t') (ch:=ch) (λc hc=>?_) (λc o _ _ hc e _=>kp c o hc e) (λc o _ _ hc e _=>⟨o.slots,kp c o hc e⟩) (λc o hc e n=>n) (λc o hc e=>⟨o,kp c o hc e⟩)
  (λc us e=>e) (λc o us e=>e) (λc us e=>⟨#[],by rw[e]; simp⟩) (λm hm=>?_) (λc us e=>?_) I.bare
 ·obtain⟨f0,f1,f2,f3,f4,f5⟩:=hf c hc
  exact⟨f3,f1,f4,f5⟩
 ·obtain⟨o,es,ep,ho,r⟩:=hm
  exact⟨o,es,ep,kp _ o (λq=>(hf _ q).2.1 rfl) ho,r⟩
 ·refine (I.hok c us e).stay (λd w' hd q=>kp d w' (λq2=>?_) q) (λd q=>q) λd ws q=>q
  have z1:=(hf d q2).1
  rcases hd with y1 | y1
  ·rw[y1,e] at z1; cases z1
  ·rw[y1] at z1; cases z1
theorem Jg {P:Program}{w:World}{K:zzA}{elts:List Expr}{k:Nat}{pos:Pos}{it:Addr}{fp wr:List Addr}{n:Nat}{Pt:Nat->Array Value->Prop}{St:Nat->Heap->Prop}{Mid:Nat->Addr->Heap->Prop}{f:Nat->List V}
  (W:∀A:Around,A.handled=none->WalksT P w A it fp wr n Pt St Mid) (UU:∀i h h',St i h->(∀b∈fp,∀o,h.get? b=some o->h'.get? b=some o)->St i h') (hm:it∈fp) (hobj:∀i h,St i h->∀b∈fp,∃o,h.get? b=some o/\∀v,o.data≠.cell v) (hv:∀i vals,Pt i vals->Vals (f i) vals.toList) (hz:∀i,(f i).length<=1000)
  (self:∀(A:Around) (i:Nat) (s:Shared) (Q:zzE) (E:zzE),St i s.heap->Q (.ref it) s->wpAny (model P w) A (pyIter (.ref it)) Q E s) :
  Turn P w K (.Tuple elts k pos) (OA n f) fp it St where
 mem:=hm
 obj:=hobj
 keep:=UU
 item:=by
  intro X hP hw hK hc i pins s σ H E I hf st hg
  subst hP hw hK
  have W':=W X.A (I.ok.hd hc)
  have hfw:∀c∈wr,iX X pins H c:=λc hc=>hf c (W'.sub c hc)
  refine W'.item i s _ E hg st λT vals h1 tk hp hle hT mid k1=>⟨_,rfl,W'.go _ _ _ i T _ _ E mid λh2 st2 k2=>?_⟩
  have UW:=W'.apart i T h1 mid
  have kp:∀c o,c∉wr->s.heap.get? c=some o->h2.get? c=some o:=λc o hc e=>k2 c o hc (k1 c o hc e)
  have I1:Inv X pins σ H { s with heap:=h2,toks:=tk }:=I.moved hfw kp
  have hsz:∀c o,s.heap.get? c=some o->c≠T:=λc o e z=>absurd (kA e) (by rw[z]; exact Nat.not_lt_of_le hle)
  have fr:H T=none:=I.hok.fresh hle
  obtain⟨o,ho,hcl,m,hd⟩:=hT
  have ho2:h2.get? T=some o:=k2 T o UW ho
  have I2:Inv X pins σ (upd H T (.tup (f i))) { s with heap:=h2,toks:=tk }:=by
   refine I.step (g':=s.gens) (d':=s.drawn) (t':=tk) (ch:=wr) (λc hc=>?_) (λc o _ _ hc e _=>kp c o hc e) (λc o _ _ hc e _=>⟨o.slots,kp c o hc e⟩) (λc o hc e n=>?_) (λc o hc e=>⟨o,kp c o hc e⟩)
    (λc us e=>?_) (λc o us e=>?_) (λc us e=>⟨#[],?_⟩) (λm hm=>?_) (λc us e=>?_) I.bare
   ·obtain⟨f0,f1,f2,f3,f4,f5⟩:=hfw c hc
    exact⟨f3,f1,f4,f5⟩
   ·rw[aT (hsz c o e)]; exact n
   ·rw[aT (bX e fr)]; exact e
   ·rw[aT (bX e fr)]; exact e
   ·rw[aT (bX e fr),e]; simp
   ·obtain⟨o,es,ep,ho,r⟩:=hm
    exact⟨o,es,ep,kp _ o (λq=>(hfw _ q).2.1 rfl) ho,r⟩
   ·by_cases GH:c=T
    ·subst GH
     rw[aA] at e
     cases e
     exact⟨zAu (hz i) (by decide),vals.toList,hv i vals hp,o,ho2,hcl,m,by simpa using hd⟩
    ·rw[aT GH] at e
     refine (I.hok c us e).stay (λd w' hd q=>kp d w' (λq2=>?_) q) (λd q=>?_) λd ws q=>?_
     ·have z1:=(hfw d q2).1
      rcases hd with y1 | y1
      ·rw[y1,e] at z1; cases z1
      ·rw[y1] at z1; cases z1
     ·rw[aT (bX q fr)]; exact q
     ·rw[aT (bX q fr)]; exact q
  refine⟨.ref T,_,I2,rfl,⟨T,rfl,fr,rfl⟩,st2,λc hc=>?_⟩
  obtain⟨oc,hoc,_⟩:=hobj i _ st c hc
  rw[aT (hsz c oc hoc)]
  exact (hf c hc).1
 done:=by
  intro X hP hw hK hc i pins s σ H E I hf st hg
  subst hP hw hK
  have hi:i=n:=hg
  subst hi
  have W':=W X.A (I.ok.hd hc)
  exact W'.done s _ E st λh' tk kk=>⟨rfl,I.moved (λc hc=>hf c (W'.sub c hc)) λc o hc e=>kk c o hc e⟩
 self:=self
end
section
variable {X:Cx}
theorem zX {y:Str}(ha:y.cps.all (· < 128)=true):strIterType y="str_ascii_iterator":=by
 unfold strIterType
 first | rw[x4 ha] | (rw[x4]; exact ha) | simp_all
theorem E1 {P:Program}{w:World}{K:zzA}{elts:List Expr}{k:Nat}{pos:Pos}(e it:Addr)(hei:e≠it)(y:Str)(tk:Tok) :
  Turn P w K (.Tuple elts k pos) (OA y.cps.size λi=>[.int (i:Int),ff y i]) [e,it] e (λi h=>(∃old,IsEnum h e it i old)/\h.IsStrIter it "str_ascii_iterator" y tk i):=by
 refine Jg (fp:=e::[it]) (λA hh=>WalksT.enumerateD (Draws.strAscii (by simp [hh]) it y tk) e hei (by simpa using hei) (by simp)) (λi h h' st kk=>?_) (by simp) (λi h st b hb=>?_) (λi vals hp=>?_) (λi=>(by show 2<=1000; decide)) λA i s Q E st q=>?_
 ·obtain⟨⟨old,he⟩,o,ho,r⟩:=st
  exact⟨⟨old,kk e (by simp) _ he⟩,o,kk it (by simp) _ ho,r⟩
 ·obtain⟨⟨old,he⟩,o,ho,hc,hd⟩:=st
  rcases wS.mp hb with rfl | hb
  ·exact⟨_,he,λv z=>nomatch z⟩
  ·rw[w8.mp hb]
   exact⟨o,ho,λv z=>by rw[hd] at z; cases z⟩
 ·obtain⟨t,x,⟨c,u,hc,rfl⟩,rfl⟩:=hp
  refine .cons ⟨t,rfl⟩ (.cons ⟨u,?_⟩ .nil)
  have:y.cps.getD i 0=c:=by rw[zA0,hc]; rfl
  rw[this]
 ·obtain⟨⟨old,he⟩,_⟩:=st
  exact wpAny_pyIter_enum he q
noncomputable def Bw (ta:TA):TI:=fun σ H R=>ta σ H λvs H1=>∃y,vs=[.str y]/\y.cps.all (· < 128)=true/\R (OA y.cps.size λi=>[.int (i:Int),ff y i]) H1
theorem Bx {elts:List Expr}{k:Nat}{tpos:Pos}{a:Expr}{ta:TA}{p pos:Pos}(hm:X.mg "enumerate"=none)(ha:PA X [a] ta)(hg:Gl X "enumerate":=by rfl)(hs:starEach [a] X.env=[(false,eval a X.env)]:=by rfl) :
  PI X (.Tuple elts k tpos) (.Call (.Name "enumerate" p) [a] [] pos) (Bw ta):=by
 intro pins s σ H R I h
 refine Call_ (o6 I hg hm boot_enumerate (zCz (rest:=[]) (aZ (ha pos pins s σ H _ I h) λus s1 ⟨vs,H1,I1,r1,q1⟩=>?_) (by rw[hs]; rfl) rfl))
 obtain⟨y,e,hasc,q⟩:=q1
 subst e
 obtain⟨u,rfl,ru⟩:=vals1 r1
 obtain⟨tk,rfl⟩:=ru
 refine call_enumerate_str λh' a1 a2 hsz kk=>wpAny_pyIter_enum a1 ?_
 rw[zX hasc] at a2
 refine⟨s1.heap.objs.size+1,[s1.heap.objs.size+1,s1.heap.objs.size],_,_,H1,rfl,I1.kept (t':=s1.toks) kk,E1 _ _ (Nat.succ_ne_self _) y tk,⟨⟨_,a1⟩,a2⟩,λb hb=>?_,q⟩
 have hl:s1.heap.objs.size<=b:=by
  rcases wS.mp hb with h | h
  ·rw[h]; exact Nat.le_succ _
  ·rw[w8.mp h]; exact x3 _
 exact I1.uW hl (I1.hok.fresh hl)
end
end L2
namespace PySem
section
variable {prog:Program}{w:World}{K:Type}[DecidableEq K]{knd:HeapKind prog w K}{A:Around}{E:zzE}{s:Shared}
theorem mz {d a:Addr}{xs:List (K × Addr × Value)}{k:K}{v:Value}{Q:zzE}(hu:knd.room A)(hkey:knd.is s.heap k a)(hm:s.heap.DictOfH knd d xs)
  (hthere:∀p,atKey xs k=some p->Q p.2 { s with toks:=s.toks+knd.draws k })
  (hnew:atKey xs k=none->∀h',h'.DictOfH knd d (storedH xs k a v)->Heap.SameBut d s.heap h'->Q v { s with heap:=h',toks:=s.toks+knd.draws k })
  (hsz:xs.length<=sizeLine) :
  wpAny (model prog w) A (dictSetDefault d (.ref a) v) Q E s:=by
 obtain⟨o,es,ep,ho,hc,hd,he,his,hn⟩:=hm
 unfold dictSetDefault
 try with_reducible refine zBs ?_
 refine yB (knd.pyHash hu hkey ?_)
 refine yB (wpAny_dictFind_heap (s:={ s with toks:=s.toks+knd.draws k }) hu hkey ho hd he his hn ?_ ?_)
 ·intro hno
  have hnot:k∉xs.map (·.1):=not_mem_keys_of_get hno
  refine yB (zCo (yB (wpAny_updateDictKeys (hz:=by have e:=size_of_entries he; omega) (s:={ s with toks:=s.toks+knd.draws k }) ho hd (y6 (hnew (atKey_none_of_get hno) _ ⟨_,_,ep+1,zB4 _ ho (Obj.isFreed_of_dict (Obj.data_mapDictKeys hd _)),
   hc.mapDictKeys _,Obj.data_mapDictKeys hd _,?_,?_,?_⟩ (zB1 ..))))))
  ·rw[storedH_new (atKey_none_of_get hno)]
   simp [he,entryOfKey]
  ·rw[storedH_new (atKey_none_of_get hno)]
   intro x hx
   rcases wT.mp hx with hx | hx
   ·exact knd.keeps (his x hx) ho hd (zB1 ..)
   ·simp only [w8] at hx
    subst hx
    exact knd.keeps hkey ho hd (zB1 ..)
  ·rw[storedH_new (atKey_none_of_get hno)]
   rw[v4,zB5]
   refine⟨hn,by simp,?_⟩
   intro x hx y hy
   simp only [zAo,map_nil,w8] at hy
   subst hy
   exact λe=>hnot (e ▸ hx)
 ·intro j p hj
  refine yB (zCl (s:={ s with toks:=s.toks+knd.draws k }) ho hd ?_)
  rw[entry_at he j,hj]
  exact yB (zCo (y6 (hthere p (atKey_of_get hn hj))))
theorem oZ (knd:HeapKind prog w K)(d a:Addr)(hd:(d == sysModules)=false)(dflt:Value) :
  MeetsIn prog w (Builtin.«dict.setdefault» ⟨[.ref d,.ref a,dflt],[]⟩) (λA R s=>knd.room A.in1/\∃k xs,knd.is s.heap k a/\s.heap.DictOfH knd d xs/\xs.length<=sizeLine/\
   (∀p,atKey xs k=some p->R (.ok (.ret p.2)) { s with toks:=s.toks+knd.draws k })/\
   (atKey xs k=none->∀h',h'.DictOfH knd d (storedH xs k a dflt)->Heap.SameBut d s.heap h'->R (.ok (.ret dflt)) { s with heap:=h',toks:=s.toks+knd.draws k })):=
 .of_wp λA R s ⟨hu,k,xs,hkey,hm,hz,h1,h2⟩=>by
  unfold Builtin.«dict.setdefault»
  refine yB ?_
  unfold Builtin.Dict.keyAndDefault
  refine yB (wpAny_notOrdered_dict hm.typeIs ?_)
  show wpAny _ _ (pure (d,Value.ref a,some dflt)) _ _ s
  refine y6 ?_
  show wpAny _ _ (if (d == sysModules)=true then _ else (dictSetDefault d (.ref a) dflt >>= _)) _ _ s
  rw[xL (by rw[hd]; exact zAf)]
  exact yB (mz hu hkey hm (λp hp=>y6 ⟨p.2,rfl,h1 p hp⟩) (λhn h' hm' hs'=>y6 ⟨dflt,rfl,h2 hn h' hm' hs'⟩) hz)
end
end PySem
namespace L2
open PySem PySem.Spec PyProof.Rows TB
section
variable {X:Cx}{pins:zzC}{σ:St}{H:Hp}{s:Shared}{a:Addr}{y d:V}{u r:Value}{o:Option V}{A:Around}{E:zzE}
theorem OB {Q:zzE}(hu:A.units+9 < cLine)(I:Inv X pins σ H s)(g:Oz X.K X.prog X.w H a y o)(ry:RelV y u)(rd:RelV d r)(h:∀w' s',Inv X pins σ H s'->RelV (o.getD d) w'->Q w' s') :
  wpAny (model X.prog X.w) A (call (.builtin "dict.get") [.ref a,u,r]) Q E s:=by
 obtain⟨m,n,k,b,hm,rfl,hk,rfl⟩:=g
 cases (show u=Value.ref b from ry)
 obtain⟨x0,ds,dd,_,_,_,rel⟩:=xU I hm
 refine call_meetsIn PySem.F.slot_dict_get dd.typeIs PySem.F.entry_dict_get (PySem.F.args_dict_get_3 _ _ _) (meetsH_dict_get_default (mw X.prog X.w) a b x0 r) ⟨Al hu,k,ds,hk.key I,dd,h _ _ (I.tok _) ?_⟩
 exact (rel k).getD rd
noncomputable def OC (K:zzA)(P:Program)(w:World)(H:Hp)(a:Addr)(y v:V)(Q:V->Hp->Prop):Prop:=∃m n k b,gO K P w H a m n/\n < sizeLine/\y=.ref b/\NK K H k b/\(∀z,m k=some z->Q z H)/\
 (m k=none->∀o,gO K P w (upd H a o) a (λj=>if j=k then some v else m j) (n+1)->Q v (upd H a o))
theorem Jh {R:V->Hp->Prop}{v:V}{Q:zzE}(hu:A.units+9 < cLine)(I:Inv X pins σ H s)(g:OC X.K X.prog X.w H a y v R)(ry:RelV y u)(rv:RelV v r)(h:∀z w' H' s',Inv X pins σ H' s'->RelV z w'->R z H'->Q w' s') :
  wpAny (model X.prog X.w) A (call (.builtin "dict.setdefault") [.ref a,u,r]) Q E s:=by
 obtain⟨m,n,k,b,hm,hn,rfl,hk,k1,k2⟩:=g
 cases (show u=Value.ref b from ry)
 have mu:=hm.mut
 obtain⟨x0,ds,dd,eH,hl,hks,rel⟩:=xU I hm
 have rT:=rel k
 refine call_meetsIn PySem.F.slot_dict_setdefault dd.typeIs PySem.F.entry_dict_setdefault (PySem.F.args_dict_setdefault_3 _ _ _) (oZ (mw X.prog X.w) a b x0 r) ⟨Al hu,k,ds,hk.key I,dd,by omega,λp hp=>?_,λhp h' Ky hs=>?_⟩
 ·rw[hp] at rT
  cases e:m k with
  | none=>rw[e] at rT; exact rT.elim
  | some z=>
   rw[e] at rT
   exact h z p.2 H _ (I.tok _) rT (k1 z e)
 ·rw[hp] at rT
  have e:m k=none:=by
   cases e:m k with
   | none=>rfl
   | some z=>rw[e] at rT; exact rT.elim
  obtain⟨q,es,ep,hq,h2,h3,h4,_,h5⟩:=Ky
  have raw:EZ X.prog X.w h' a (storedH ds k b r):=⟨x0,q,es,ep,hq,h2,h3,h4,h5⟩
  refine h v r _ _ (Dw I mu hs ⟨q,hq⟩ (Bu raw)) rv (k2 e _ ⟨storedH ds k b r,aA,?_,λx hx=>?_,λk'=>?_⟩)
  ·unfold storedH
   split
   ·rw[y3]; omega
   ·rw[zAb,zC7]; omega
  ·rw[storedH_new hp] at hx
   rcases wT.mp hx with z | z
   ·exact (hks x z).tups λq xs hq=>mS mu hq
   ·rw[w8.mp z]
    exact hk.tups λq xs hq=>mS mu hq
  ·rw[GG]
   show mZ (if k'=k then some v else m k') _
   by_cases e':k'=k
   ·rw[x4 e',x4 e']; exact rv
   ·rw[xL e',xL e']; exact rel k'
noncomputable def OD (K:zzA)(P:Program)(w:World)(H:Hp)(a:Addr):Prop:=∃m n,gO K P w H a m n
theorem GI (I:Inv X pins σ H s)(d:OD X.K X.prog X.w H a):s.TypeIs (.ref a) "dict"/\∀b,Value.ref a=.ref b->∃ob,s.heap.get? b=some ob/\ob.dict=none:=by
 obtain⟨m,n,hm⟩:=d
 obtain⟨x0,ds,dd,_⟩:=xU I hm
 refine⟨dd.typeIs,λb q=>?_⟩
 cases q
 obtain⟨ob,_,_,h1,h2,_⟩:=dd
 exact⟨ob,h1,h2.2.1⟩
end
noncomputable def GJ (K:zzA)(P:Program)(w:World)(td ty tx:TE):TE:=fun σ H Q=>td σ H λx H1=>∃a,x=.ref a/\OD K P w H1 a/\ty σ H1 λy H2=>tx σ H2 λz H3=>∃o,Oz K P w H3 a y o/\Q (o.getD z) H3
noncomputable def Kz (K:zzA)(P:Program)(w:World)(td ty tx:TE):TE:=fun σ H Q=>td σ H λx H1=>∃a,x=.ref a/\OD K P w H1 a/\ty σ H1 λy H2=>tx σ H2 λz H3=>OC K P w H3 a y z Q
section
variable {X:Cx}{o e f:Expr}{apos cpos:Pos}{td ty tx:TE}(K:zzA)(P:Program)(w:World)
theorem OE (hu:X.A.units+9 < cLine)(ho:PE X o td)(he:PE X e ty)(hf:PE X f tx)(m:M2 X o "get" apos e f cpos)(hK:X.K=K:=by rfl)(hP:X.prog=P:=by rfl)(hw:X.w=w:=by rfl):PE X (.Call (.Attribute o "get" apos) [e,f] [] cpos) (GJ K P w td ty tx):=by
 subst hK; subst hP; subst hw
 intro pins s σ H Q I h
 refine wpAny_Call_method m.base m.few m.line PySem.F.plainAttrs_dict PySem.F.slot_dict_get PySem.F.type_dict_get (aZ (ho pins s σ H _ I h) λu s1 ⟨x,H1,I1,rx,a,ex,d,q1⟩=>?_)
 subst ex
 obtain rfl:u=Value.ref a:=rx
 obtain⟨t1,t2⟩:=GI I1 d
 refine⟨t1,t2,?_⟩
 rw[m.trees]
 refine Calls.callWith_builtin rfl (Calls.evalArgs_plain (Calls.spliced_cons (aZ (he pins s1 σ H1 _ I1 q1) λiv s2 ⟨y,H2,I2,ry,q2⟩=>
  Calls.spliced_cons (aZ (hf pins s2 σ H2 _ I2 q2) λfv s3 ⟨z,H3,I3,rz,ov,g,q3⟩=>Calls.spliced_nil ?_))))
 exact OB hu I3 g ry rz λw' s4 I4 rw'=>⟨_,H3,I4,rw',q3⟩
theorem QU (hu:X.A.units+9 < cLine)(ho:PE X o td)(he:PE X e ty)(hf:PE X f tx)(m:M2 X o "setdefault" apos e f cpos)(hK:X.K=K:=by rfl)(hP:X.prog=P:=by rfl)(hw:X.w=w:=by rfl):PE X (.Call (.Attribute o "setdefault" apos) [e,f] [] cpos) (Kz K P w td ty tx):=by
 subst hK; subst hP; subst hw
 intro pins s σ H Q I h
 refine wpAny_Call_method m.base m.few m.line PySem.F.plainAttrs_dict PySem.F.slot_dict_setdefault PySem.F.type_dict_setdefault (aZ (ho pins s σ H _ I h) λu s1 ⟨x,H1,I1,rx,a,ex,d,q1⟩=>?_)
 subst ex
 obtain rfl:u=Value.ref a:=rx
 obtain⟨t1,t2⟩:=GI I1 d
 refine⟨t1,t2,?_⟩
 rw[m.trees]
 refine Calls.callWith_builtin rfl (Calls.evalArgs_plain (Calls.spliced_cons (aZ (he pins s1 σ H1 _ I1 q1) λiv s2 ⟨y,H2,I2,ry,q2⟩=>
  Calls.spliced_cons (aZ (hf pins s2 σ H2 _ I2 q2) λfv s3 ⟨z,H3,I3,rz,g⟩=>Calls.spliced_nil ?_))))
 exact Jh hu I3 g ry rz λz' w' H4 s4 I4 rw' q=>⟨z',H4,I4,rw',q⟩
end
noncomputable def OF (K:zzA)(ta tb:TE):TE:=fun σ H Q=>ta σ H λx H1=>∃k,xH K x H1 k/\if k=true then Q x H1 else tb σ H1 Q
section
variable {X:Cx}{a b:Expr}{rest:List Expr}{pos:Pos}{ta tb:TE}(K:zzA)
theorem Tt (ha:PE X a ta)(hb:PE X (.BoolOp .Or (b::rest) pos) tb)(hK:X.K=K:=by rfl):PE X (.BoolOp .Or (a::b::rest) pos) (OF K ta tb):=by
 subst hK
 intro pins s σ H Q I h
 refine BoolOp_or (aZ (ha pins s σ H _ I h) λv s1 ⟨x,H1,I1,r1,k,hk,q1⟩=>?_)
 refine aZ (F9 pins s1 σ H1 x v (λc H2=>c=k/\H2=H1) I1 r1 ⟨k,hk,rfl,rfl⟩) λc s2 hc=>?_
 obtain⟨H2,I2,e1,rfl⟩:=hc
 subst e1
 cases c with
 | true=>rw[x4 rfl] at q1; exact⟨x,_,I2,r1,q1⟩
 | false=>rw[xL (by decide)] at q1; exact hb pins s2 σ _ Q I2 q1
end
section
variable {X:Cx}(K:zzA)
end
theorem ve:fillsNumberSlot (.type "tuple") "mul"=pure false:=
 PySem.fillsNumberSlot_seq (id:="tuple.__mul__") (r:=some (.builtin "tuple.__rmul__")) F.slot_tuple_mul.lookup (by decide +kernel) F.slot_tuple_rmul.lookup (by decide +kernel)
theorem By:seqRepeat? (.type "tuple")=pure (some (.builtin "tuple.__mul__")):=by
 unfold seqRepeat?
 rw[PySem.seqSlot_of (T:="tuple") (name:="__mul__") (id:="tuple.__mul__") F.slot_tuple_mul.lookup (by decide +kernel),PySem.seqSlot_of (T:="tuple") (name:="__rmul__") (id:="tuple.__rmul__") F.slot_tuple_rmul.lookup (by decide +kernel)]
 rfl
section
variable {prog:Program}{w:World}{A:Around}{E:zzE}{s:Shared}
theorem GK (k:Int)(t:Tok)(a:Addr):Meets (Builtin.«int.__rmul__» ⟨[.int k t,.ref a],[]⟩) (λ_ R s=>(∃o xs m,s.heap.get? a=some o/\o.cls=.type "tuple"/\o.data=.seq xs m)/\R (.ok (.ret Value.notImplemented)) s):=
 .of_wp λprog w A R s h=>by
  obtain⟨hp,g,d,tk,os⟩:=s
  obtain⟨⟨o,xs,m,ho,hc,hd⟩,h⟩:=h
  have hT:(⟨hp,g,d,tk,os⟩:Shared).TypeIs (.ref a) "tuple":=⟨o,ho,hc⟩
  wp_walk
  rw[hd]
  wp_walk
  exact⟨_,rfl,h⟩
theorem Me (v:Value):∀n:Nat,foldl (·++·) (#[]:Array Value) (replicate n #[v])=(replicate n v).toArray:=by
 have f:∀(n:Nat) (acc:Array Value),foldl (·++·) acc (replicate n #[v])=acc++(replicate n v).toArray:=λn=>by
  induction n with
  | zero=>intro acc; simp
  | succ n ih=>
   intro acc
   rw[zCc,foldl_cons,ih,zCc,Array.append_assoc]
   congr 1
   simp
 intro n
 rw[f]
 simp
theorem GL {a:Addr}{o:Obj}{v:Value}{m n:Nat}{t:Tok}{P:PySem.Fin->Shared->Prop}(ho:s.heap.get? a=some o)(hc:o.cls=.type "tuple")(hd:o.data=.seq #[v] m)(h1:1<=n)(hn:n<=1000)
  (hs:n=1->P (.done (.ret (.ref a))) s) (hb:P (.done (.ret (.ref s.heap.objs.size))) { s with heap:=s.heap.push { cls:=.type "tuple",data:=.seq (replicate n v).toArray } }) :
  wpAny (model prog w) A (Builtin.«tuple.__mul__» ⟨[.ref a,.int n t],[]⟩) P E s:=by
 unfold Builtin.«tuple.__mul__»
 show wpAny _ _ (asIndex (.int (n:Int) t) >>= _) _ _ _
 refine yB (wpAny_of_eq (show asIndex (.int (n:Int) t)=pure (n:Int) from rfl) ?_)
 have g1:¬ ((decide ((n:Int) < -(2 ^ 63))||decide ((n:Int) >= 2 ^ 63))=true):=by simp; omega
 rw[xL g1]
 refine yB (wpAny_tupleItemsOf ho hd ?_)
 have c1:¬ ((decide ((n:Int)<=0)||(#[v]:Array Value).isEmpty)=true):=by simp; omega
 have c2:¬ ((((#[v]:Array Value).size:Int) * (n:Int)) > (2 ^ 63 - 1) / 8):=by simp; omega
 have c3:¬ (Builtin.Tuple.tupleTooMany (((#[v]:Array Value).size:Int) * (n:Int))=true):=by
  unfold Builtin.Tuple.tupleTooMany
  rw[zAk]
  simp
  omega
 dsimp only
 by_cases e1:n=1
 ·subst e1
  rw[x4 (by rfl)]
  unfold Builtin.Tuple.tupleIsExact
  refine yB (yB (zD3 (T:="tuple") ⟨o,ho,hc⟩ (y6 ?_)))
  rw[x4 (by decide)]
  exact yB (zCo (y6 (hs rfl)))
 ·have c0:¬ (((#[v]:Array Value).isEmpty||(n:Int) == 1)=true):=by simp; omega
  rw[xL c0,xL c1,xL c2,xL c3,Me,zAg]
  unfold tupleExact
  exact yB (zBl (y6 hb) (show (replicate n v).toArray.size<=sizeLine by rw[zAe,List.length_replicate,zAk]; omega))
end
noncomputable def E2 (K:zzA):R2:=λx y H Q=>∃(a:Addr) (v:V) (n:Nat),x=.ref a/\y=.int (n:Int)/\aJ K H a [v]/\1<=n/\n<=1000/\∀p H',ai H H'->aJ K H' p (replicate n v)->Q (.ref p) H'
theorem BA {v:V}{u:Value}(r:RelV v u):∀n:Nat,Vals (replicate n v) (replicate n u)
 | 0=>.nil
 | n+1=>.cons r (BA r n)
theorem Mf {X:Cx}:dz X (binaryOp .Mult) (E2 X.K):=by
 intro pins s σ H x y u v Q I rx ry h
 obtain⟨a,z,n,rfl,rfl,hq,h1,hn,q⟩:=h
 cases rx
 obtain⟨t,rfl⟩:=ry
 obtain⟨its,r',⟨o,ho,hc,m,hd⟩,_⟩:=I.tuple hq
 obtain⟨w0,rfl,rz⟩:=vals1 r'
 refine wpAny_binaryOp_repeat_ref (T:="tuple") (U:="int") (by decide) ⟨_,ho,hc⟩ (λs'=>typeIs_int s' n t) ve F.fills_int_mul F.slot_int_rmul By F.slot_int_index.lookup
  (call_meets F.slot_int_rmul (typeIs_int s n t) F.entry_int_rmul (F.args_int_rmul_2 _ _) (GK n t a) ⟨⟨o,_,m,ho,hc,hd⟩,rfl,⟨_,ho,hc⟩,zBe F.slot_tuple_mul ⟨_,ho,hc⟩ F.entry_tuple_mul ?_ (F.args_tuple_mul_2 _ _)⟩)
 refine GL ho hc hd h1 hn (λe=>⟨_,rfl,?_⟩) ⟨_,rfl,?_⟩
 ·subst e
  exact⟨.ref a,H,I,rfl,q a H (ai.refl H) hq⟩
 ·have fr:H s.heap.objs.size=none:=I.hok.fresh (x3 _)
  refine⟨.ref s.heap.objs.size,upd H s.heap.objs.size (.tup (replicate n z)),I.laid (t':=s.toks) (λb o e=>y8 _ e) (x3 _) ⟨?_,replicate n w0,BA rz n,IsTup.new _ _⟩,rfl,q _ _ (ai.new fr _) (aJ.of aA)⟩
  rw[List.length_replicate,zAk]
  omega
theorem QV {X:Cx}(K:zzA)(h:X.K=K:=by rfl):dz X (binaryOp .Mult) (E2 K):=h ▸ Mf
theorem fM.GN {k:Nat}{A:Around}(r:fM k A):A.units+9 < cLine:=by have:=r.un; omega
section
variable {X:Cx}{CX:o9}{k:Nat}{f C:Addr}{fd:FuncData}{ps:List Str}{sp:Sp}{E:XK}{x m q:Str}{st:Stmt}{p pos apos cpos tpos:Pos}{e o i value:Expr}{es:List Expr}{ta tv td ty:TE}{t:TA}(K:zzA)
end
section
variable {X:Cx}
end
section
variable {X:Cx}{pos:Pos}
end
section
variable {K:zzA}{ix:List (Option Nat)}{g:TG}{tf:TT}{te:TE}{σ:St}{H H1:Hp}{Q:Addr->Hp->Prop}{a:Addr}
theorem Dz {tt:TA}{tb:TS}{D:Ends}{y:Str}{i₀ j₀:Nat}(h:Ga tt σ H [.str y])(ha:y.cps.all (· < 128)=true)(Pv:Nat->St->Hp->Prop)(h0:∀H',ai H H'->Pv 0 σ H')
  (hs:∀i σ H tp,i < y.cps.size->Pv i σ H->H tp=none->tb { D with nx:=Pv (i+1),ct:=Pv (i+1),bk:=D.nx } ((σ.set i₀ (some (.int (i:Int)))).set j₀ (some (ff y i))) (upd H tp (.tup [.int (i:Int),ff y i]))) (hd:∀σ H,Pv y.cps.size σ H->D.nx σ H) :
  oX (Bw tt) (Er K 2 (vN (bC i₀) (vN (bC j₀) ID))) tb D σ H:=by
 refine h _ λH' s=>⟨y,rfl,ha,?_⟩
 refine⟨λi m σ H=>m=y.cps.size - i/\i<=y.cps.size/\Pv i σ H,⟨y.cps.size,by simp,zAw _,h0 H' s⟩,?_⟩
 rintro i m σ H ⟨rfl,hi,p⟩
 by_cases hlt:i < y.cps.size
 ·refine .inr ⟨hlt,Pv (i+1),fun σ' H' p'=>⟨y.cps.size - (i+1),by omega,rfl,hlt,p'⟩,λv H' z=>?_⟩
  obtain⟨tp,rfl,ht,rfl⟩:=z
  exact⟨tp,_,rfl,aJ.of aA,rfl,_,_,rfl,_,_,rfl,rfl,hs i σ H tp hlt p ht⟩
 ·have e:i=y.cps.size:=by omega
  subst e
  exact .inl ⟨rfl,hd σ H p⟩
theorem Mg {tt:TA}{tb us:TS}{D:Ends}{y:Str}{i₀ j₀:Nat}(h:Ga tt σ H [.str y])(ha:y.cps.all (· < 128)=true)(Pv:Nat->St->Hp->Prop)(h0:∀H',ai H H'->Pv 0 σ H')
  (hs:∀i σ H tp,i < y.cps.size->Pv i σ H->H tp=none->tb { D with nx:=Pv (i+1),ct:=Pv (i+1),bk:=us D } ((σ.set i₀ (some (.int (i:Int)))).set j₀ (some (ff y i))) (upd H tp (.tup [.int (i:Int),ff y i]))) (hd:∀σ H,Pv y.cps.size σ H->us D σ H) :
  iW (oX (Bw tt) (Er K 2 (vN (bC i₀) (vN (bC j₀) ID))) tb) us D σ H:=Dz (D:={ D with nx:=us D }) h ha Pv h0 hs hd
end
noncomputable def E3 (K:zzA)(a:Addr)(xs:List V):Prop:=∃(o:Obj) (its:Array Value) (n:Nat),K.lookup a=some o/\o.cls=.type "tuple"/\o.data=.seq its n/\its.size<=sizeLine/\Vals xs its.toList
theorem E3.sq {K:zzA}{H:Hp}{a:Addr}{xs:List V}(h:E3 K a xs):aJ K H a xs:=.inr h
open PySem.W
def vf (K:Frag)(f:Addr):Option FuncData:=match K.lookup f with
 | some ⟨_,_,.func fd,_⟩=>some fd
 | _=>none
def OG (K:Frag)(q:Str)(f:Addr):Bool:=(match vf K f with
 | some fd=>codeIn K fd.code q
 | none=>false)&&keepIn K (.ref f)
def core (d:FuncData):=(d.name,d.qualname,d.params,d.body,d.scope,d.globals,d.closure,d.defaults,d.builtins)
noncomputable def OH:Option (Option Value)->Addr
 | some (some (.ref f))=>f
 | _=>0
noncomputable def aY (K:Frag)(n:Str):Addr:=OH (nsIn K mainGlobals n)
abbrev RG (K:Frag) (n q:Str) (st:Stmt) (f:Addr):Prop:=((vf K f).map core,OG K q f)=(some (n,q,eS st,FuncBody.stmts (dW st),aI st,mainGlobals,[],.none,builtinsNs),true)
abbrev CN (K:Frag) (n:Str):Prop:=nsIn K mainGlobals n=some (some (.ref (aY K n)))
abbrev NF (K:Frag) (n:Str) (st:Stmt):Prop:=CN K n/\RG K n n st (aY K n)
section
variable {K:Frag}{n q:Str}{st:Stmt}{f C:Addr}
theorem Mh (h:RG K n q st f):∃d,pA K n q st f d:=by
 obtain⟨e,b⟩:=vT h
 unfold OG at b
 obtain⟨b1,b2⟩:=zBn.mp b
 cases z:K.lookup f with
 | none=>rw[vf,z] at e; cases e
 | some o=>
  obtain⟨oc,od,dat,sl⟩:=o
  cases dat with
  | func d=>
   have ed:vf K f=some d:=by unfold vf; rw[z]
   rw[ed] at e b1
   obtain⟨n1,q1,p1,y1,s1,g1,c1,d1,k1,XQ,XR,a1,XS,XT,XU⟩:=d
   have e':=zAh e
   unfold core at e'
   simp only [Prod.mk.injEq] at e'
   obtain⟨rfl,rfl,rfl,rfl,rfl,rfl,rfl,rfl,rfl⟩:=e'
   exact⟨_,NP z b1 b2⟩
  | _=>rw[vf,z] at e; cases e
theorem a_ (h:NF K n st):∃d,pA K n n st (aY K n) d:=Mh h.2
end
abbrev CV (K:Frag) (n:Str) (v:V):Prop:=((nsIn K mainGlobals n).bind λu=>u.bind oV)=some v
theorem wF {K:Frag}{n:Str}{v:V}(h:CV K n v):∃u,nsIn K mainGlobals n=some (some u)/\RelV v u:=by
 cases e:nsIn K mainGlobals n with
 | none=>rw[CV,e] at h; cases h
 | some o=>
  cases o with
  | none=>rw[CV,e] at h; cases h
  | some u=>
   rw[CV,e] at h
   refine⟨u,rfl,?_⟩
   have h':oV u=some v:=h
   cases u <;> simp only [oV] at h' <;> first | (cases h'; first | rfl | exact⟨_,rfl⟩) | cases h'
noncomputable def RH:Option (Option Value)->Bool
 | some (some (.ref _))=>true
 | _=>false
theorem OI {o:Option (Option Value)}(h:RH o=true):o=some (some (.ref (OH o))):=by
 match o,h with
 | some (some (.ref a)),_=>rfl
abbrev cJ (K:Frag) (q:Str) (f:Addr):=((vf K f).map core,OG K q f)
abbrev cK (n q:Str) (st:Stmt):=(some (n,q,eS st,FuncBody.stmts (dW st),aI st,mainGlobals,([]:List (Str × Addr)),Value.none,builtinsNs),true)
noncomputable def cE (K:Frag)(n:Str):Bool:=RH (nsIn K mainGlobals n)
theorem KA {K:Frag}{n:Str}(h:cE K n=true):CN K n:=OI h
theorem bu {K:Frag}{n:Str}{st:Stmt}(h:(cE K n,cJ K n (aY K n))=(true,cK n n st)):NF K n st:=⟨KA (vT h).1,(vT h).2⟩
abbrev KC (K:Frag) (n:Str):=(nsIn K mainGlobals n).bind λu=>u.bind oV
abbrev TK {α:Type} (_:Frag->α):=α
theorem fZ {us:List Value}{n:Nat}(h:us.length=n+1):∃a r,us=a::r/\r.length=n:=by
 cases us with
 | nil=>cases h
 | cons a r=>exact⟨a,r,rfl,Nat.succ.inj h⟩
section
variable {K:zzA}{x qual:Str}{st:Stmt}{f:Addr}{fd:FuncData}{p1 p2 p3 p4 p5 p6:Str}
theorem ny (F:pA K x qual st f fd)(h:∀(k d p:Value) (n:Option Addr) (c e:Value) (a1:Value),bindArgs (PySem.W.fnOf x qual (eS st) (dW st) (aI st) .none k d p n c e) ⟨[a1],[]⟩=pure (([p1]:List Str).zip [a1])):Binds K fd [p1] []:=F.binds λk d p n c e us hl=>by
 obtain⟨a1,u1,rfl,g1⟩:=fZ hl
 obtain rfl:=zCx.mp g1
 exact h k d p n c e a1
theorem lT (F:pA K x qual st f fd)(h:∀(k d p:Value) (n:Option Addr) (c e:Value) (a1 a2:Value),bindArgs (PySem.W.fnOf x qual (eS st) (dW st) (aI st) .none k d p n c e) ⟨[a1,a2],[]⟩=pure (([p1,p2]:List Str).zip [a1,a2])):Binds K fd [p1,p2] []:=F.binds λk d p n c e us hl=>by
 obtain⟨a1,u1,rfl,g1⟩:=fZ hl
 obtain⟨a2,u2,rfl,g2⟩:=fZ g1
 obtain rfl:=zCx.mp g2
 exact h k d p n c e a1 a2
theorem GO (F:pA K x qual st f fd)(h:∀(k d p:Value) (n:Option Addr) (c e:Value) (a1 a2 a3:Value),bindArgs (PySem.W.fnOf x qual (eS st) (dW st) (aI st) .none k d p n c e) ⟨[a1,a2,a3],[]⟩=pure (([p1,p2,p3]:List Str).zip [a1,a2,a3])):Binds K fd [p1,p2,p3] []:=F.binds λk d p n c e us hl=>by
 obtain⟨a1,u1,rfl,g1⟩:=fZ hl
 obtain⟨a2,u2,rfl,g2⟩:=fZ g1
 obtain⟨a3,u3,rfl,g3⟩:=fZ g2
 obtain rfl:=zCx.mp g3
 exact h k d p n c e a1 a2 a3
theorem RI (F:pA K x qual st f fd)(h:∀(k d p:Value) (n:Option Addr) (c e:Value) (a1 a2 a3 a4:Value),bindArgs (PySem.W.fnOf x qual (eS st) (dW st) (aI st) .none k d p n c e) ⟨[a1,a2,a3,a4],[]⟩=pure (([p1,p2,p3,p4]:List Str).zip [a1,a2,a3,a4])):Binds K fd [p1,p2,p3,p4] []:=F.binds λk d p n c e us hl=>by
 obtain⟨a1,u1,rfl,g1⟩:=fZ hl
 obtain⟨a2,u2,rfl,g2⟩:=fZ g1
 obtain⟨a3,u3,rfl,g3⟩:=fZ g2
 obtain⟨a4,u4,rfl,g4⟩:=fZ g3
 obtain rfl:=zCx.mp g4
 exact h k d p n c e a1 a2 a3 a4
theorem UX (F:pA K x qual st f fd)(h:∀(k d p:Value) (n:Option Addr) (c e:Value) (a1 a2 a3 a4 a5:Value),bindArgs (PySem.W.fnOf x qual (eS st) (dW st) (aI st) .none k d p n c e) ⟨[a1,a2,a3,a4,a5],[]⟩=pure (([p1,p2,p3,p4,p5]:List Str).zip [a1,a2,a3,a4,a5])):Binds K fd [p1,p2,p3,p4,p5] []:=F.binds λk d p n c e us hl=>by
 obtain⟨a1,u1,rfl,g1⟩:=fZ hl
 obtain⟨a2,u2,rfl,g2⟩:=fZ g1
 obtain⟨a3,u3,rfl,g3⟩:=fZ g2
 obtain⟨a4,u4,rfl,g4⟩:=fZ g3
 obtain⟨a5,u5,rfl,g5⟩:=fZ g4
 obtain rfl:=zCx.mp g5
 exact h k d p n c e a1 a2 a3 a4 a5
end
noncomputable def KD (K:Frag)(a:Addr):Option (Value × List (Option V)):=match K.lookup a with
 | some ⟨c,_,.seq its _,_⟩=>some (c,its.toList.map oV)
 | _=>none
abbrev KG (xs:List V):Option (Value × List (Option V)):=some (.type "tuple",xs.map some)
abbrev GP (K:Frag) (a:Addr) (xs:List V):Prop:=KD K a=KG xs
theorem QW {K:Frag}{a:Addr}{xs:List V}(h:KD K a=KG xs):GP K a xs:=h
theorem Mi {u:Value}{v:V}(h:oV u=some v):RelV v u:=by
 cases u <;> simp only [oV] at h <;> first | (cases h; first | rfl | exact⟨_,rfl⟩) | cases h
theorem BB:∀{us:List Value} {vs:List V},us.map oV=vs.map some->Vals vs us
 | [],[],_=>.nil
 | [],_::_,h=>by cases h
 | _::_,[],h=>by cases h
 | u::us,v::vs,h=>by
  injection h with h1 h2
  exact .cons (Mi h1) (BB h2)
theorem Mj {K:Frag}{a:Addr}{xs:List V}(h:GP K a xs)(hl:xs.length<=sizeLine:=by decide):E3 K a xs:=by
 unfold GP KD KG at h
 cases e:K.lookup a with
 | none=>rw[e] at h; cases h
 | some o=>
  obtain⟨c,d,dat,sl⟩:=o
  rw[e] at h
  cases dat with
  | seq its n=>
   obtain⟨h1,h2⟩:=vT (zAh h)
   have h1:c=.type "tuple":=h1
   have h2:its.toList.map oV=xs.map some:=h2
   refine⟨_,its,n,e,h1,rfl,?_,BB h2⟩
   have:=zA3 length h2
   rw[y3,y3,u8] at this
   omega
  | _=>cases h
end L2
namespace jL
open PySem PySem.Spec PyProof.Rows L2
def top (i:Nat):Stmt:=PySem.Challenge.pw_quiltyard_k40_whole_joined.main.body.getD i (.Pass ⟨0,0,0,0⟩)
abbrev gm:Stmt:=top 5
abbrev ig:Stmt:=top 10
abbrev pH:Stmt:=top 11
abbrev i9:Stmt:=top 12
abbrev gn:Stmt:=top 13
abbrev ee:Stmt:=top 14
abbrev fk:Stmt:=top 17
abbrev i_:Stmt:=top 18
abbrev ja:Stmt:=top 19
abbrev gp:Stmt:=top 20
abbrev gq:Stmt:=top 21
abbrev gr:Stmt:=top 22
abbrev nA:Stmt:=top 23
abbrev eB:Stmt:=top 24
abbrev lC:Stmt:=top 25
abbrev fq:Stmt:=top 26
abbrev fP:Stmt:=top 27
abbrev lD:Stmt:=top 28
abbrev lE:Stmt:=top 29
abbrev jV:Stmt:=top 30
abbrev lH:Stmt:=top 31
abbrev ir:Stmt:=top 32
abbrev fQ:Stmt:=top 33
abbrev jb:Stmt:=top 34
abbrev lI:Stmt:=top 35
abbrev gu:Stmt:=top 36
abbrev fR:Stmt:=top 37
abbrev jc:Stmt:=top 39
abbrev jW:Stmt:=top 40
abbrev fS:Stmt:=top 41
abbrev iu:Stmt:=top 42
abbrev gv:Stmt:=top 43
abbrev gw:Stmt:=top 44
abbrev jd:Stmt:=top 45
abbrev jX:Stmt:=top 46
abbrev gx:Stmt:=top 47
abbrev je:Stmt:=top 48
abbrev gy:Stmt:=top 49
abbrev mC:Stmt:=top 50
set_option genInjectivity false in
structure Ad where
 qB:Addr
 jk:FuncData
 rV:Addr
 jY:FuncData
 DA:Addr
 tR:FuncData
 uv:Addr
 kN:FuncData
 qC:Addr
 jl:FuncData
 nB:Addr
 f9:FuncData
 nZ:Addr
 gU:FuncData
 uw:Addr
 kO:FuncData
 ux:Addr
 kP:FuncData
 qD:Addr
 jn:FuncData
 qE:Addr
 jo:FuncData
 qF:Addr
 jq:FuncData
 BC:Addr
 qg:FuncData
 nC:Addr
 f_:FuncData
 zf:Addr
 n_:FuncData
 oh:Addr
 gW:FuncData
 pI:Addr
 iJ:FuncData
 zg:Addr
 oj:FuncData
 zh:Addr
 om:FuncData
 wG:Addr
 mD:FuncData
 zj:Addr
 oq:FuncData
 rW:Addr
 jZ:FuncData
 pJ:Addr
 iK:FuncData
 uz:Addr
 kQ:FuncData
 zk:Addr
 ow:FuncData
 qG:Addr
 jr:FuncData
 pK:Addr
 iL:FuncData
 uA:Addr
 kR:FuncData
 wH:Addr
 mE:FuncData
 pL:Addr
 iM:FuncData
 rX:Addr
 j4:FuncData
 qH:Addr
 jt:FuncData
 qI:Addr
 ju:FuncData
 uB:Addr
 kT:FuncData
 wI:Addr
 mF:FuncData
 qJ:Addr
 jv:FuncData
 uC:Addr
 kU:FuncData
 qK:Addr
 jw:FuncData
 wJ:Addr
 qh:FuncData
 oz:Value
 qi:Value
 j5:Value
 jx:Value
 gz:Addr
structure Txt (K:zzA)(mg:Str->Option Value)(t:Ad):Prop where
 uD:Def K mg "are_letters" gm t.qB t.jk ["text"]
 wK:Def K mg "are_fields" ig t.rV t.jY ["fields","many","marks"]
 KH:Def K mg "rises" pH t.DA t.tR ["tiles"]
 zm:Def K mg "is_system" i9 t.uv t.kN ["system"]
 gJ:Def K mg "look_system" gn t.qC t.jl ["system"]
 pM:Def K mg "mirrored_tiles" ee t.nB t.f9 ["tiles"]
 gA:Def K mg "look_together" fk t.nZ t.gU ["marks"]
 look_both:Def K mg "look_both" i_ t.uw t.kO ["one","other"]
 oA:Def K mg "each_once" ja t.ux t.kP ["tiles"]
 uE:Def K mg "moved_field" gp t.qD t.jn ["field","by"]
 kW:Def K mg "moved_tiles" gq t.qE t.jo ["tiles","by"]
 jf:Def K mg "stood_tiles" gr t.qF t.jq ["tiles"]
 either:Def K mg "either" nA t.BC t.qg ["one","other"]
 pN:Def K mg "pairs_of_marks" eB t.nC t.f_ ["one","other"]
 xV:Def K mg "face_of" lC t.zf t.n_ ["letters","tile"]
 qL:Def K mg "tiles_by_face" fq t.oh t.gW ["system"]
 rY:Def K mg "paired_tiles" fP t.pI t.iJ ["one","other","marks"]
 DB:Def K mg "meeting" lD t.zg t.oj ["one","other"]
 tT:Def K mg "left_of" lE t.zh t.om ["tile"]
 right_of:Def K mg "right_of" jV t.wG t.mD ["tile"]
 DC:Def K mg "is_seam" lH t.zj t.oq ["left","right"]
 wL:Def K mg "seam_tiles" ir t.rW t.jZ ["tiles","others"]
 nD:Def K mg "beside_tiles" fQ t.pJ t.iK ["tiles","others"]
 oB:Def K mg "beside_of" jb t.uz t.kQ ["one","other"]
 over_of:Def K mg "over_of" lI t.zk t.ow ["one","other"]
 uF:Def K mg "mirrored_of" gu t.qG t.jr ["system"]
 rZ:Def K mg "stood_system" fR t.pK t.iL ["system"]
 _law_cell:Def K mg "_law_cell" jc t.uA t.kR ["_law_script","_law_k"]
 _law_mix:Def K mg "_law_mix" jW t.wH t.mE ["_law_script","_law_k"]
 _law_picture:Def K mg "_law_picture" fS t.pL t.iM ["_law_script","_law_k","_law_high","_law_wide","_law_letters"]
 _law_tiles:Def K mg "_law_tiles" iu t.rX t.j4 ["_law_rows"]
 _law_system:Def K mg "_law_system" gv t.qH t.jt ["_law_script","_law_k","_law_marks"]
 _law_column:Def K mg "_law_column" gw t.qI t.ju ["_law_system_here","_law_left","_law_text","_law_right"]
 _law_last:Def K mg "_law_last" jd t.uB t.kT ["_law_system_here","_law_column_here"]
 _law_let:Def K mg "_law_let" jX t.wI t.mF ["_law_system_here","_law_picture_here"]
 _law_beside:Def K mg "_law_beside" gx t.qJ t.jv ["_law_one","_law_other","_law_picture_here"]
 _law_over:Def K mg "_law_over" je t.uC t.kU ["_law_one","_law_other","_law_picture_here"]
 _law_joined:Def K mg "_law_joined" gy t.qK t.jw ["_law_script","_law_k","_law_one","_law_other"]
 law:Def K mg "law" mC t.wJ t.qh ["_law_script"]
 GQ:mg "LETTERS"=some t.oz
 GR:RelV (.str "abcd") t.oz
 ku:mg "BORDER"=some t.qi
 kB:RelV (.int (-1)) t.qi
 r_:mg "MOST_MARKS"=some t.j5
 sf:RelV (.int 16) t.j5
 zY:mg "TILE_FIELDS"=some t.jx
 zZ:RelV (.int 4) t.jx
 sj:mg "EDGE"=some (.ref t.gz)
 GS:E3 K t.gz [.int (-1),.int (-1)]
 bM:mg "len"=none
 tU:mg "all"=none
 bW:mg "range"=none
 KI:mg "zip"=none
 OJ:mg "list"=none
 tV:mg "tuple"=none
 KJ:mg "set"=none
 kC:mg "sorted"=none
 GU:mg "dict"=none
 uG:mg "enumerate"=none
theorem small {n:Nat}(h:n<=100000):n<=sizeLine:=by rw[zAk]; omega
section
variable {P:Program}{w:World}{K:zzA}{mg:Str->Option Value}{base:Heap}{t:Ad}
theorem su {ta:TE}{σ:L2.St}{H:Hp}{a:Addr}{xs:List V}(h:Gv ta σ H (.ref a))(hq:aD K H a xs):Gt (fun σ H Q=>ta σ H λx H'=>∃k,xH K x H' k/\Q k H') σ H (!xs.isEmpty):=λR r=>h _ λH' s=>⟨_,.inl ⟨xs,s.seq hq,rfl⟩,r H' s⟩
noncomputable def cell (ns:List Int)(k:Int):Int:=if ns=[] then 0 else ns.getD (k % ns.length).toNat 0
noncomputable def Ml (K:zzA):Sp:=λvs H Q _=>∃(a:Addr) (ns:List Int) (k:Int),vs=[.ref a,.int k]/\aD K H a (ns.map V.int)/\ns.length<=63/\∀H',ai H H'->Q (.int (cell ns k)) H'
theorem BD:aQ ["_law_script","_law_k"] ["_law_script","_law_k"] (aI jc):=⟨rfl,rfl,rfl,by decide +kernel,rfl,by decide +kernel,by decide +kernel⟩
theorem BE (T:Txt K mg t):bx P w K mg base cA 1 t.uA t.kR ["_law_script","_law_k"] (Ml K):=by
 refine T._law_cell.fn.ok BD (λvs H Q E h=>?_) (λcdv A outer s H vs Q E hr h=>?_)
 ·obtain⟨a,ns,k,rfl,_⟩:=h
  rfl
 obtain⟨a,ns,k,rfl,hq,hl,kk⟩:=h
 refine⟨_,(ak (fX (wk K (pv 0) (λ_=>rfl)) (aB (aX (aH (dF K) (pv 0) (av cy (pv 1) (aM (cC K) (by rfl) T.bM zBh (aa (pv 0) ah))) (λ_ _=>rfl)))) dw) (aB (aX aj))),?_⟩
 refine wg (su (af (by rfl)) hq) (λc H1 s1=>?_) λc H1 s1=>?_
 ·have ne:ns≠[]:=λz=>by rw[z] at c; simp at c
  have hpos:0 < ns.length:=List.length_pos_iff.mpr ne
  have hlt:(k % (ns.length:Int)).toNat < ns.length:=by
   have h1:=zC4 k (show (0:Int) < ns.length by omega)
   have h2:=zCm k (show (ns.length:Int)≠0 by omega)
   omega
  have hat:iR (ns.map V.int) (k % ((ns.map V.int).length:Int))=some (.int (cell ns k)):=by
   have h2:=zCm k (show (ns.length:Int)≠0 by omega)
   rw[y3]
   have e:k % (ns.length:Int)=((k % (ns.length:Int)).toNat:Int):=by omega
   rw[e]
   refine aG ?_
   unfold cell
   rw[xL ne,wP,xI hlt,y4,xI hlt]
   rfl
  refine dJ (fh (af (by rfl)) (λH2 s2=>aW (af (by rfl)) (λH3 s3=>jK (K:=K) (xs:=ns.map V.int) (aC (af (by rfl))) ((s1.trans (s2.trans s3)).seq hq)) ?_) (s1.seq hq) hat) λH2 s2=>kk H2 (s1.trans s2)
  rw[y3]; omega
 ·have e:ns=[]:=by
   cases ns with
   | nil=>rfl
   | cons x xs=>simp at c
  have:=kk H1 s1
  rw[show cell ns k=0 by unfold cell; rw[x4 e]] at this
  exact this
noncomputable def OL (ns:List Int)(k:Int):Int:=(cell ns k+104729 * (k+1)) % 4294967291 * 48271 % 4294967279
noncomputable def mix (ns:List Int)(k:Int):Int:=(OL ns k / 64 * 69621+OL ns k) % 4294967231
theorem pO (ns:List Int)(k:Int):0<=mix ns k:=zCm _ (by decide)
noncomputable def GV (K:zzA):Sp:=λvs H Q _=>∃(a:Addr) (ns:List Int) (k:Int),vs=[.ref a,.int k]/\aD K H a (ns.map V.int)/\ns.length<=63/\∀H',ai H H'->Q (.int (mix ns k)) H'
theorem o4:aQ ["_law_script","_law_k","_law_number"] ["_law_script","_law_k"] (aI jW):=⟨rfl,rfl,rfl,by decide +kernel,rfl,by decide +kernel,by decide +kernel⟩
theorem kX (T:Txt K mg t):bx P w K mg base cA 2 t.wH t.mE ["_law_script","_law_k"] (GV K):=by
 have CP:=BE (P:=P) (w:=w) (base:=base) T
 refine T._law_mix.fn.ok o4 (λvs H Q E h=>?_) (λcdv A outer s H vs Q E hr h=>?_)
 ·obtain⟨a,ns,k,rfl,_⟩:=h
  rfl
 obtain⟨a,ns,k,rfl,hq,hl,kk⟩:=h
 refine⟨_,(ak (aN (i:=2) o4.nd rfl (by first | exact Or.inl rfl | exact Or.inr rfl) (av cy (av aP (aq T._law_cell CP (hr.mono (by first | decide | omega)) aL (aa (pv 0) (aa (pv 1) ah))) (av gk aj (av aP (pv 1) aj))) aj)) (ak (aN (i:=2) o4.nd rfl (by first | exact Or.inl rfl | exact Or.inr rfl) (av cy (av gk (pv 2) aj) aj)) (aB (aX (av cy (av aP (av gk (av gI (pv 2) aj) aj) (pv 2)) aj))))),?_⟩
 refine dM (aW (aS (iI (v:=.int (cell ns k)) (au (af (by rfl)) λ_ _=>aC (af (by rfl))) λH1 R s1 k1=>⟨a,ns,k,rfl,s1.seq hq,hl,k1⟩) λH1 s1=>aW ao (λH2 s2=>aS (af (by rfl)) λ_ _=>ao) (.inl ⟨by decide,by decide⟩)) (λ_ _=>ao) (by decide)) λH1 s1=>?_
 refine dM (aW (aW (af (by rfl)) (λ_ _=>ao) (.inr ⟨by decide,by decide⟩)) (λ_ _=>ao) (by decide)) λH2 s2=>?_
 refine dJ (aW (aS (aW (aW (af (by rfl)) (λ_ _=>ao) ⟨by decide,by decide⟩) (λ_ _=>ao) (.inr ⟨by decide,by decide⟩)) λ_ _=>af (by rfl)) (λ_ _=>ao) (by decide)) λH3 s3=>?_
 exact kk H3 (s1.trans (s2.trans s3))
end
set_option maxHeartbeats 1000000
section
variable {P:Program}{w:World}{K:zzA}{mg:Str->Option Value}{base:Heap}{t:Ad}
noncomputable def Gd (K:zzA)(te:TE)(σ:L2.St)(H:Hp)(ds:List Dt):Prop:=∀R:VK,(∀p H' vs,H p=none->ai H H'->H' p=some (.lst vs)->aF K (Hm p H') ds vs->R (.ref p) H')->te σ H R
theorem QX {te:TE}{σ:L2.St}{H:Hp}{ds:List Dt}{R:VK}(h:Gd K te σ H ds)(r:∀p H' vs,H p=none->ai H H'->H' p=some (.lst vs)->aF K (Hm p H') ds vs->R (.ref p) H'):te σ H R:=h R r
theorem GW {te:TE}{σ:L2.St}{H:Hp}{ns:List Int}(h:Gn te σ H (ns.map V.int)):Gd K (AS (bE te cM)) σ H [ie ns]:=λR r=>
 h _ λp H1 hp s1 hl=>⟨(by show 1<=sizeLine; decide),λq hq=>r q _ _ (s1.free hq) (s1.trans (ai.new hq _)) aA (by
  unfold aF
  refine⟨_,_,rfl,kr.mpr ⟨p,rfl,aD.of ?_⟩,by unfold aF; rfl⟩
  have ne:p≠q:=bX hl hq
  rw[mj ne,aT ne]
  exact hl)⟩
theorem GX {ta tb:TE}{σ:L2.St}{H:Hp}{ds es:List Dt}(ha:Gd K ta σ H ds)(hb:∀H',ai H H'->Gd K tb σ H' es)(hz:ds.length+es.length<=sizeLine):Gd K (di EI ta tb) σ H (ds++es):=λR r=>
 ha _ λa H1 vs ha1 s1 hl1 r1=>hb H1 s1 _ λb H2 ws hb2 s2 hl2 r2=>by
  refine⟨a,b,vs,ws,rfl,rfl,s2 _ _ hl1,hl2,by rw[r1.length,r2.length]; exact hz,λq hq=>?_⟩
  have sq:ai H2 (Hm q (upd H2 q (.lst (vs++ws)))):=(ai.new hq _).into hq
  exact r q _ _ ((s1.trans s2).free hq) ((s1.trans s2).trans (ai.new hq _)) aA (aF.append (r1.same (nq.trans (s2.trans sq))) (r2.same (nq.trans sq)))
theorem OM {ta tb:TE}{σ:L2.St}{H:Hp}{xs:List V}{k:Nat}(ha:Gn ta σ H xs)(hb:∀H',ai H H'->Gv tb σ H' (.int k))(hk:k<=1000)(hz:xs.length * k<=1000):Gn (di IU ta tb) σ H (replicate k xs).flatten:=λR r=>
 ha _ λa H1 ha1 s1 hl1=>hb H1 s1 _ λH2 s2=>⟨a,k,xs,rfl,rfl,s2 _ _ hl1,by omega,by omega,by rw[zAg]; exact small (zAu hz (by decide)),λq hq=>by
  have:=r q _ ((s1.trans s2).free hq) ((s1.trans s2).trans (ai.new hq _)) aA
  rw[zAg]
  exact this⟩
theorem Mm {tt:TA}{σ:L2.St}{H:Hp}{p:Addr}{ys:List V}(h:Ga tt σ H [.ref p])(hq:aD K H p ys):Gn (qz (λxs H Q=>∃p ys,xs=[.ref p]/\(aD K H p ys\/aJ K H p ys)/\∀l,H l=none->Q (.ref l) (upd H l (.lst ys))) tt) σ H ys:=λR r=>
 h _ λH1 s1=>⟨p,ys,rfl,.inl (s1.seq hq),λl hl=>r l _ (s1.free hl) (s1.trans (ai.new hl _)) aA⟩
theorem GY (k:Nat)(i:Int):(replicate k [V.int i]).flatten=(replicate k i).map V.int:=by
 induction k with
 | zero=>rfl
 | succ k ih=>rw[zCc,List.flatten_cons,ih,zCc]; rfl
theorem DE {tt:TA}{g:TG}{tb:TS}{D:Ends}{σ:L2.St}{H:Hp}{n:Nat}(h:Ga tt σ H [.int (n:Int)])(hn:n<=1000)(Pv:Nat->L2.St->Hp->Prop)(h0:∀H',ai H H'->Pv 0 σ H')
  (hs:∀i σ H,i < n->Pv i σ H->g (.int (i:Int)) σ H fun σ2 H2=>tb { D with nx:=Pv (i+1),ct:=Pv (i+1),bk:=D.nx } σ2 H2) (hd:∀σ H,Pv n σ H->D.nx σ H):oX (vP tt) g tb D σ H:=
 h _ λH' s'=>⟨(n:Int),rfl,by omega,by omega,yQ (n:=(n:Int).toNat) Pv (h0 H' s') (λi σ H hi p=>by
  rw[zAg] at hi
  rw[zero_add]
  exact hs i σ H hi p) fun σ H p=>by rw[zAg] at p; exact hd σ H p⟩
theorem iN {tt:TA}{g:TG}{tb us:TS}{D:Ends}{σ:L2.St}{H:Hp}{n:Nat}(h:Ga tt σ H [.int (n:Int)])(hn:n<=1000)(Pv:Nat->L2.St->Hp->Prop)(h0:∀H',ai H H'->Pv 0 σ H')
  (hs:∀i σ H,i < n->Pv i σ H->g (.int (i:Int)) σ H fun σ2 H2=>tb { D with nx:=Pv (i+1),ct:=Pv (i+1),bk:=us D } σ2 H2) (hd:∀σ H,Pv n σ H->us D σ H):iW (oX (vP tt) g tb) us D σ H:=
 DE (D:={ D with nx:=us D }) h hn Pv h0 hs hd
noncomputable def bO (rows:zzB):Nat:=(rows.headD []).length
noncomputable def iw (rows:zzB):List Int:=replicate (bO rows+2) (-1)
noncomputable def bI (rows:zzB):zzB:=[iw rows]++rows.map (λr=>[-1]++r++[-1])++[iw rows]
noncomputable def fu (b:zzB)(y x:Nat):List Int:=[(b.getD y []).getD x 0,(b.getD y []).getD (x+1) 0,(b.getD (y+1) []).getD x 0,(b.getD (y+1) []).getD (x+1) 0]
noncomputable def iy (rows:zzB)(y:Nat):zzB:=(range (bO rows+1)).map (fu (bI rows) y)
noncomputable def qj (rows:zzB):zzB:=(range (rows.length+1)).flatMap (iy rows)
theorem vg (rows:zzB):(bI rows).length=rows.length+2:=by unfold bI; simp
theorem vh {rows:zzB}(hr:∀r∈rows,r.length=bO rows){y:Nat}(hy:y < rows.length+2):((bI rows).getD y []).length=bO rows+2:=by
 have hm:(bI rows).getD y []∈bI rows:=by
  rw[y4,xI (by rw[vg]; exact hy)]
  exact zB9 _
 generalize (bI rows).getD y []=z at hm
 unfold bI iw at hm
 simp only [wT,w8,x5] at hm
 rcases hm with (rfl | ⟨r,hr',rfl⟩) | rfl
 ·simp
 ·have:=hr r hr'
  simp
  omega
 ·simp
theorem vj (rows:zzB):∀i,((range i).flatMap (iy rows)).length=i * (bO rows+1)
 | 0=>by simp
 | i+1=>by
  rw[zBp,zEb,zAb,vj rows i,Nat.succ_mul]
  simp [iy]
theorem Ji {tt:TA}{σ:L2.St}{H:Hp}{vs:List V}{R:List V->Hp->Prop}(h:Ga tt σ H vs)(hz:vs.length<=sizeLine)(k:∀H1 p,ai H H1->H1 p=none->R [.ref p] (upd H1 p (.tup vs))):bE (uY tt) cM σ H R:=h _ λH1 s1=>⟨hz,λp hp=>k H1 p s1 hp⟩
noncomputable def Jj (K:zzA):Sp:=λvs H Q _=>∃(a:Addr) (rows:zzB),vs=[.ref a]/\Rep K H (.lst (rows.map ie)) (.ref a)/\rows≠[]/\(∀r∈rows,r.length=bO rows)/\rows.length<=20/\bO rows<=20/\
 ∀(F:Addr) (H':Hp) (ws:List V),H F=none->ai H H'->H' F=some (.lst ws)->aF K (Hm F H') ((qj rows).map tupI) ws->Q (.ref F) H'
theorem Jk {r:List Int}{x:Nat}(h:x < r.length):iR (r.map V.int) (x:Int)=some (.int (r.getD x 0)):=aG (by simp [y4,h])
theorem eU:aQ ["_law_rows","_law_wide","_law_some","_law_found","_law_y","_law_x"] ["_law_rows"] (aI iu):=⟨rfl,rfl,rfl,by decide +kernel,rfl,by decide +kernel,by decide +kernel⟩
theorem z5 (T:Txt K mg t):bx P w K mg base cA 1 t.rX t.j4 ["_law_rows"] (Jj K):=by
 refine T._law_tiles.fn.ok eU (λvs H Q E h=>?_) (λcdv A outer s H vs Q E hr h=>?_)
 ·obtain⟨a,rows,rfl,_⟩:=h
  rfl
 obtain⟨a,rows,rfl,hrep,hne,E4,hlen,Jl,kk⟩:=h
 unfold Rep at hrep
 obtain⟨a',xs,e,hq,E5⟩:=hrep
 cases e
 have zo:xs.length=rows.length:=by rw[E5.length,y3]
 refine⟨_,(ak (aN (i:=1) eU.nd rfl (by first | exact Or.inl rfl | exact Or.inr rfl) (av aP (aM (cC K) (by rfl) T.bM zBh (aa (aH (dF K) (pv 0) aj (λ_ _=>rfl)) ah)) aj)) (ak (aN (i:=2) eU.nd rfl (by first | exact Or.inl rfl | exact Or.inr rfl) (av iZ (av iZ (bQ (aa (av Gb (bQ (aa (fH dH aj) ah)) (pv 1)) ah)) (bz (N':=["_law_row"]) (ix:=[none]) (aK (by kernel_rfl)) rfl (bN K (pv 0)) (λ_ _ _ _=>(aE (i:=0) (show List.Nodup (["_law_row"]:List Str) from by decide +kernel) rfl (by first | exact Or.inl rfl | exact Or.inr rfl))) (λ_ _ _ _=>bJ) (λ_ _ _ _=>(av iZ (av iZ (bQ (aa (fH dH aj) ah)) (eZ (QL K) (by rfl) T.OJ boot_list (aa (pv 0) ah))) (bQ (aa (fH dH aj) ah)))))) (bQ (aa (av Gb (bQ (aa (fH dH aj) ah)) (pv 1)) ah)))) (ak (aN (i:=3) eU.nd rfl (by first | exact Or.inl rfl | exact Or.inr rfl) (bQ ah)) (ak (b_ zA2 rfl (bK rfl T.bW (aa (av rD (aM (cC K) (by rfl) T.bM zBh (aa (pv 2) ah)) aj) ah)) (aE (i:=4) eU.nd rfl (by first | exact Or.inl rfl | exact Or.inr rfl)) (aB (b_ zA2 rfl (bK rfl T.bW (aa (av rD (pv 1) aj) ah)) (aE (i:=5) eU.nd rfl (by first | exact Or.inl rfl | exact Or.inr rfl)) (aB (bw (jT K zA6 zBi zBj cT (pv 3) (aa (bP (aa (aH (dF K) (aH (dF K) (pv 2) (pv 4) (λ_ _=>rfl)) (pv 5) (λ_ _=>rfl)) (aa (aH (dF K) (aH (dF K) (pv 2) (pv 4) (λ_ _=>rfl)) (av aP (pv 5) aj) (λ_ _=>rfl)) (aa (aH (dF K) (aH (dF K) (pv 2) (av aP (pv 4) aj) (λ_ _=>rfl)) (pv 5) (λ_ _=>rfl)) (aa (aH (dF K) (aH (dF K) (pv 2) (av aP (pv 4) aj) (λ_ _=>rfl)) (av aP (pv 5) aj) (λ_ _=>rfl)) ah))))) ah))))))) (aB (aX (pv 3))))))),?_⟩
 obtain⟨r0,rr,rfl⟩:∃r0 rr,rows=r0::rr:=by
  cases rows with
  | nil=>exact absurd rfl hne
  | cons r0 rr=>exact⟨r0,rr,rfl⟩
 obtain⟨v0,hv0,hr0⟩:=E5.get 0 (ie r0) rfl
 obtain⟨b0,rfl,hb0⟩:=kr.mp hr0
 refine dM (bA (aS (jK (K:=K) (aC (fh (K:=K) (af (by rfl)) (λ_ _=>ao) hq (aG (j:=0) hv0))) hb0) λ_ _=>ao) (y:=.int ((bO (r0::rr)+2:Nat):Int)) (by rw[y3]; rfl)) λH1 s1=>?_
 have iz:∀{σ:L2.St} {Hx:Hp},Gv (AQ (rU λi=>.int (-i)) (tC (.int 1))) σ Hx (.int (-1)):=wo ao
 have edgeG:∀{σ:L2.St} {Hx:Hp},σ[1]?=some (some (V.int ((bO (r0::rr)+2:Nat):Int)))->Gn (di IU (AS (bE (AQ (rU λi=>.int (-i)) (tC (.int 1))) cM)) (fB 1)) σ Hx ((iw (r0::rr)).map V.int):=λh1=>
  ES (OM (ni (aC iz) (by show 1<=sizeLine; decide)) (λ_ _=>af h1) (by omega) (by simp; omega)) (GY _ _)
 have hmid:(r0::rr).map (λr=>ie ([-1]++r++[-1]))=(range xs.length).map λi=>ie ([-1]++(r0::rr).getD i []++[-1]):=by
  rw[zo]
  refine zCa (by simp) λi h1 h2=>?_
  have hi:i < (r0::rr).length:=by simpa using h1
  rw[List.getElem_map,List.getElem_map,List.getElem_range,y4,xI hi]
  rfl
 refine bf (QX (K:=K) (GX (GX (GW (edgeG (by rfl))) (λH2 s2=>(show Gd K _ _ H2 ((r0::rr).map λr=>ie ([-1]++r++[-1])) from λR r=>?_)) (small (by simp at hlen ⊢; omega))) (λH2 s2=>GW (edgeG (by rfl))) (small (by simp at hlen ⊢; omega))) λS H2 ws hS s2 fL rS=>?_)
 ·refine jS (K:=K) (af (by rfl)) ((s1.trans s2).seq hq) λH4 s4 uH=>?_
  refine zW (λi=>ie ([-1]++(r0::rr).getD i []++[-1])) uH (small (by omega)) (λD i x H5 R5 hD UY hx s5 k5=>?_) λD H5 ys hD s5 aV rep=>r D H5 ys (s4.free hD) (s4.trans s5) aV (by rw[hmid]; exact rep)
  obtain⟨d,hd,hdx⟩:=E5.at_ i x hx
  obtain⟨r',hr',hrl⟩:∃r',(r0::rr)[i]?=some r'/\d=ie r':=by
   rw[wP] at hd
   cases e:(r0::rr)[i]? with
   | none=>rw[e] at hd; cases hd
   | some r'=>rw[e] at hd; exact⟨r',rfl,(zAh hd).symm⟩
  subst hrl
  obtain⟨b,rfl,hb⟩:=kr.mp hdx
  have hgd:(r0::rr).getD i []=r':=by rw[y4,hr']; rfl
  have hrw:r'.length<=20:=by rw[E4 r' (zAj hr')]; exact Jl
  refine QM (Dp (Dp (ni (aC iz) (by show 1<=sizeLine; decide)) (λH6 s6=>Mm (K:=K) (aC (af (by rfl))) ((s1.trans (s2.trans (s4.trans (s5.trans s6)))).seq hb)) (small (by simp; omega))) (λH6 s6=>ni (aC iz) (by show 1<=sizeLine; decide)) (small (by simp; omega))) λp H6 hp s6 hl=>?_
  refine k5 _ H6 s6 (kr.mpr ⟨p,rfl,aD.of ?_⟩)
  have ne:p≠D:=λz=>by
   obtain⟨ys,hys⟩:=UY
   rw[z,hys] at hp
   cases hp
  rw[mj ne,hl,hgd]
  simp
 have s02:=s1.trans s2
 have DF:∀{Hx:Hp},ai H2 Hx->∀y,y < rr.length+3->∃c,ws[y]?=some (.ref c)/\aD K Hx c (((bI (r0::rr)).getD y []).map V.int):=λ{Hx} sx y hy=>by
  have hy':y < (bI (r0::rr)).length:=by rw[vg]; simpa using hy
  have e:([ie (iw (r0::rr))]++(r0::rr).map (λr=>ie ([-1]++r++[-1]))++[ie (iw (r0::rr))])=(bI (r0::rr)).map ie:=by
   unfold bI
   rw[v4,v4,zAy]
   rfl
  rw[e] at rS
  obtain⟨v,hv,hr⟩:=rS.get y (ie ((bI (r0::rr)).getD y [])) (by rw[wP,y4,xI hy']; rfl)
  obtain⟨c,rfl,hc⟩:=kr.mp hr
  exact⟨c,hv,(nq.trans sx).seq hc⟩
 have hwl:ws.length=rr.length+3:=by
  rw[rS.length]
  simp
 refine bf ⟨(by show 0<=sizeLine; decide),λF hF=>?_⟩
 refine iN (n:=rr.length+2) (aC (bA (aS (jK (K:=K) (aC (af (by rfl))) (aD.of (ai.new hF _ _ _ fL))) λ_ _=>ao) (by rw[hwl]; congr 1; omega))) (by simp at hlen; omega)
  (λi σ H3=>∃(e4 e5:Option V) (us:List V),σ=[some (.ref a),some (.int ((bO (r0::rr)+2:Nat):Int)),some (.ref S),some (.ref F),e4,e5]/\ai H2 H3/\H3 F=some (.lst us)/\aF K (Hm F H3) (((range i).flatMap (iy (r0::rr))).map tupI) us)
  (λH3 s3=>⟨none,none,[],rfl,(ai.new hF _).trans s3,s3 _ _ aA,by show aF K _ [] []; unfold aF; rfl⟩) ?_ ?_
 ·rintro i σ H3 hi ⟨e4,e5,us,rfl,s3,ON,OO⟩
  refine DE (n:=bO (r0::rr)+1) (aC (bA (aS (af (by rfl)) λ_ _=>ao) (by congr 1; omega))) (by omega)
   (λj σ H4=>∃(e5:Option V) (us:List V),σ=[some (.ref a),some (.int ((bO (r0::rr)+2:Nat):Int)),some (.ref S),some (.ref F),some (.int (i:Int)),e5]/\ai H2 H4/\H4 F=some (.lst us)/\aF K (Hm F H4) ((((range i).flatMap (iy (r0::rr)))++(range j).map (fu (bI (r0::rr)) i)).map tupI) us)
   (λH4 s4=>⟨e5,us,rfl,s3.trans s4,s4 _ _ ON,by simpa using OO.same s4.hm⟩) ?_ ?_
  ·rintro j σ H4 hj ⟨e5,us,rfl,s4,BF,rF4⟩
   obtain⟨c1,hc1,q1⟩:=DF s4 i (by omega)
   obtain⟨c2,hc2,q2⟩:=DF s4 (i+1) (by omega)
   have l1:=vh E4 (y:=i) (by simp; omega)
   have l2:=vh E4 (y:=i+1) (by simp; omega)
   have it:∀{σ:L2.St} {Hx:Hp} {tb tc:TE} {y x:Nat} {c:Addr},σ[2]?=some (some (V.ref S))->ai H4 Hx->ws[y]?=some (.ref c)->aD K H4 c (((bI (r0::rr)).getD y []).map V.int)->x < ((bI (r0::rr)).getD y []).length->(∀Hy,ai Hx Hy->Gv tb σ Hy (.int (y:Int)))->(∀Hy,ai Hx Hy->Gv tc σ Hy (.int (x:Int)))->
     Gv (di (oY K) (di (oY K) (fB 2) tb) tc) σ Hx (.int (((bI (r0::rr)).getD y []).getD x 0)):=λh2 sx hw hc hx hb UZ=>
    fh (K:=K) (fh (K:=K) (af h2) hb (aD.of ((s4.trans sx) _ _ fL)) (aG hw)) UZ (sx.seq hc) (Jk hx)
   have vy:∀{σ:L2.St} {Hx:Hp},σ[4]?=some (some (V.int (i:Int)))->∀Hy,ai Hx Hy->Gv (fB 4) σ Hy (.int (i:Int)):=λh _ _=>af h
   have vx:∀{σ:L2.St} {Hx:Hp},σ[5]?=some (some (V.int (j:Int)))->∀Hy,ai Hx Hy->Gv (fB 5) σ Hy (.int (j:Int)):=λh _ _=>af h
   have vy1:∀{σ:L2.St} {Hx:Hp},σ[4]?=some (some (V.int (i:Int)))->∀Hy,ai Hx Hy->Gv (di (qy λi j=>.int (i+j)) (fB 4) (tC (.int 1))) σ Hy (.int ((i+1:Nat):Int)):=λh _ _=>bA (aS (af h) λ_ _=>ao) rfl
   have vx1:∀{σ:L2.St} {Hx:Hp},σ[5]?=some (some (V.int (j:Int)))->∀Hy,ai Hx Hy->Gv (di (qy λi j=>.int (i+j)) (fB 5) (tC (.int 1))) σ Hy (.int ((j+1:Nat):Int)):=λh _ _=>bA (aS (af h) λ_ _=>ao) rfl
   refine⟨_,rfl,.inl ⟨rfl,_,aD.of BF⟩,?_⟩
   refine Ji (au (it (y:=i) (x:=j) rfl (ai.refl _) hc1 q1 (by omega) (vy rfl) (vx rfl)) λH5 s5=>au (it (y:=i) (x:=j+1) rfl s5 hc1 q1 (by omega) (vy rfl) (vx1 rfl)) λH6 s6=>au (it (y:=i+1) (x:=j) rfl (s5.trans s6) hc2 q2 (by omega) (vy1 rfl) (vx rfl)) λH7 s7=>aC (it (y:=i+1) (x:=j+1) rfl (s5.trans (s6.trans s7)) hc2 q2 (by omega) (vy1 rfl) (vx1 rfl))) (by show 4<=sizeLine; decide) λH5 p s5 hp=>?_
   have sp:=ai.new hp (.tup [V.int (((bI (r0::rr)).getD i []).getD j 0),.int (((bI (r0::rr)).getD i []).getD (j+1) 0),.int (((bI (r0::rr)).getD (i+1) []).getD j 0),.int (((bI (r0::rr)).getD (i+1) []).getD (j+1) 0)])
   have U0:=sp _ _ (s5 _ _ BF)
   refine⟨F,us,_,rfl,rfl,U0,?_,?_⟩
   ·rw[rF4.length]
    refine zDs (show _<=1000 from ?_) (by decide)
    have hfl:=vj (r0::rr) i
    simp only [y3,zAb,zBd]
    have:i * (bO (r0::rr)+1)<=22 * 21:=mul_le_mul (by simp at hlen; omega) (by omega)
    omega
   ·refine⟨_,us++[.ref p],rfl,(s4.trans (s5.trans sp)).put hF _,aA,?_⟩
    have ne:p≠F:=λz=>by rw[z,s5 _ _ BF] at hp; cases hp
    have e:(((range i).flatMap (iy (r0::rr)))++(range (j+1)).map (fu (bI (r0::rr)) i)).map tupI=(((range i).flatMap (iy (r0::rr)))++(range j).map (fu (bI (r0::rr)) i)).map tupI++[tupI (fu (bI (r0::rr)) i j)]:=by
     simp [zBp]
    rw[e]
    refine aF.snoc (fY.mpr ⟨p,rfl,aJ.of ?_⟩) (rF4.same ((s5.trans sp).pG _))
    rw[mj ne,aT ne,aA]
    rfl
  ·rintro σ H4 ⟨e5,us,rfl,s4,BF,rF4⟩
   refine⟨_,_,us,rfl,s4,BF,?_⟩
   rw[zBp,zEb]
   simpa [iy] using rF4
 ·rintro σ H3 ⟨e4,e5,us,rfl,s3,ON,OO⟩
  refine⟨_,rfl,kk F H3 us (s02.free hF) (s02.trans s3) ON ?_⟩
  unfold qj
  exact OO
end
noncomputable def xW:zzB:=[[-1,-1,-1,0],[-1,-1,-1,1],[-1,-1,-1,2],[-1,-1,0,-1],[-1,-1,1,-1],[-1,-1,2,-1],[-1,0,-1,-1],[-1,1,-1,-1],[-1,2,-1,-1],[0,-1,-1,-1],[1,-1,-1,-1],[2,-1,-1,-1]]
noncomputable def fT (t:List Int):Bool:=!xW.contains t
noncomputable def aU (n:Nat)(t:List Int):Prop:=t.length=4/\∀f∈t,-1<=f/\f < n
structure Sys (m:Nat)(x:Str)(ts:zzB):Prop where
 pos:1<=x.length
 most:x.length<=m
 ab:∀c∈x.cps.toList,c=97\/c=98
 ok:∀t∈ts,aU x.length t
 up:ts.Pairwise λa b=>HT.lexLt a b=true
 few:ts.countP fT<=39
structure Am (n:Nat)(rows:zzB):Prop where
 ne:rows≠[]
 high:rows.length<=3
 wide:1<=bO rows/\bO rows<=3
 Jm:∀r∈rows,r.length=bO rows
 RJ:∀r∈rows,∀f∈r,0<=f/\f < n
theorem GZ (rows:zzB):(bI rows).getD 0 []=iw rows:=rfl
theorem BG (rows:zzB){i:Nat}(h:i < rows.length):(bI rows).getD (i+1) []=[-1]++rows.getD i []++[-1]:=by
 unfold bI
 rw[y4,zA8 (by simp; omega),zAz (by simp)]
 simp [y4,h]
theorem zp (rows:zzB):(bI rows).getD (rows.length+1) []=iw rows:=by
 unfold bI
 rw[y4,zAz (by simp)]
 simp
theorem jM (rows:zzB){x:Nat}(h:x < bO rows+2):(iw rows).getD x 0=-1:=by
 unfold iw
 rw[y4,List.getElem?_replicate,x4 h]
 rfl
theorem KL (r:List Int):([-1]++r++[-1]:List Int).getD 0 0=-1:=rfl
theorem DG (r:List Int){i:Nat}(h:i < r.length):([-1]++r++[-1]:List Int).getD (i+1) 0=r.getD i 0:=by
 rw[y4,zA8 (by simp; omega),zAz (by simp)]
 simp [y4]
theorem Jo (r:List Int):([-1]++r++[-1]:List Int).getD (r.length+1) 0=-1:=by
 rw[y4,zAz (by simp)]
 simp
theorem getD_mem {α:Type}{l:List α}{i:Nat}{d:α}(h:i < l.length):l.getD i d∈l:=by
 rw[y4,xI h]
 exact zB9 h
section
variable {n:Nat}{rows:zzB}
theorem Mn (h:Am n rows){y x:Nat}(hy:y < rows.length+2)(hx:x < bO rows+2):-1<=((bI rows).getD y []).getD x 0/\((bI rows).getD y []).getD x 0 < n:=by
 have hn:(0:Int)<=n:=by omega
 have hm:(bI rows).getD y []∈bI rows:=getD_mem (by rw[vg]; exact hy)
 have hl:=vh h.Jm hy
 have hm2:((bI rows).getD y []).getD x 0∈(bI rows).getD y []:=getD_mem (by omega)
 generalize ((bI rows).getD y []).getD x 0=f at *
 generalize (bI rows).getD y []=z at *
 unfold bI iw at hm
 simp only [wT,w8,x5] at hm
 rcases hm with (rfl | ⟨r,hr,rfl⟩) | rfl
 ·have:=List.eq_of_mem_replicate hm2; omega
 ·simp only [wT,w8] at hm2
  rcases hm2 with (e | e) | e
  ·omega
  ·have:=h.RJ r hr f e; omega
  ·omega
 ·have:=List.eq_of_mem_replicate hm2; omega
theorem Mq (h:Am n rows):∀t∈qj rows,aU n t:=by
 intro t ht
 unfold qj at ht
 obtain⟨y,hy,ht⟩:=zDm.mp ht
 obtain⟨x,hx,rfl⟩:=x5.mp ht
 have hy:=zAq.mp hy
 have hx:=zAq.mp hx
 refine⟨rfl,λf hf=>?_⟩
 unfold fu at hf
 simp only [wS,zBr,zBz] at hf
 rcases hf with e | e | e | e <;> rw[e] <;> exact Mn h (by omega) (by omega)
theorem three {a:Int}(h0:0<=a)(h1:a < n)(hn:n<=3):a=0\/a=1\/a=2:=by omega
theorem wM {α:Type}{p:α->Bool}{f:Nat->α}{w:Nat}(hw:1<=w)(h0:p (f 0)=false)(h1:p (f w)=false):((range (w+1)).map f).countP p<=w - 1:=by
 obtain⟨v,rfl⟩:∃v,w=v+1:=⟨w - 1,by omega⟩
 rw[zBp,v4,zDt,List.range_succ_eq_map,zAo,List.countP_cons]
 have:=List.countP_le_length (p:=p) (l:=(List.map Nat.succ (range v)).map f)
 simp only [y3,zBd] at this
 simp [h0,h1]
 simp at this
 omega
theorem E6 {α:Type}{p:α->Bool}{g:Nat->List α}{h B0 B:Nat}(hh:1<=h)(c0:(g 0).countP p<=B0)(ch:(g h).countP p<=B0)(cm:∀y,(g y).countP p<=B):((range (h+1)).flatMap g).countP p<=2 * B0+(h - 1) * B:=by
 obtain⟨v,rfl⟩:∃v,h=v+1:=⟨h - 1,by omega⟩
 have mid:∀l:List Nat,(l.flatMap g).countP p<=l.length * B:=λl=>by
  induction l with
  | nil=>simp
  | cons y l ih=>
   rw[List.flatMap_cons,zDt,zBq,Nat.succ_mul]
   have:=cm y
   omega
 rw[zBp,zEb,zDt,List.range_succ_eq_map,List.flatMap_cons,zDt]
 have:=mid ((range v).map Nat.succ)
 simp only [y3,zBd] at this
 simp only [List.flatMap_cons,List.flatMap_nil,zBc,zCg]
 omega
theorem Jp (hn:n<=3)(h:Am n rows):(qj rows).countP fT<=12/\(qj rows).length<=16:=by
 obtain⟨r0,rr,rfl⟩:∃r0 rr,rows=r0::rr:=by
  cases rows with
  | nil=>exact absurd rfl h.ne
  | cons r0 rr=>exact⟨r0,rr,rfl⟩
 have hw:=h.wide
 have hh:=h.high
 generalize QY:r0::rr=rows at *
 have hpos:1<=rows.length:=by rw[←QY]; simp
 have inr:∀i,i < rows.length->(rows.getD i []).length=bO rows/\∀j,j < bO rows->0<=(rows.getD i []).getD j 0/\(rows.getD i []).getD j 0 < n:=λi hi=>by
  have hm:rows.getD i []∈rows:=getD_mem hi
  have hl:=h.Jm _ hm
  exact⟨hl,λj hj=>h.RJ _ hm _ (getD_mem (by omega))⟩
 obtain⟨l0,i0⟩:=inr 0 (by omega)
 obtain⟨l1,i1⟩:=inr (rows.length - 1) (by omega)
 have w1:bO rows=(bO rows - 1)+1:=by omega
 have e1:(bI rows).getD 1 []=[-1]++rows.getD 0 []++[-1]:=BG rows (i:=0) (by omega)
 have e2:(bI rows).getD rows.length []=[-1]++rows.getD (rows.length - 1) []++[-1]:=by
  have:=BG rows (i:=rows.length - 1) (by omega)
  rwa [show rows.length - 1+1=rows.length by omega] at this
 have first:∀r:List Int,r.length=bO rows->([-1]++r++[-1]:List Int).getD 1 0=r.getD 0 0/\([-1]++r++[-1]:List Int).getD (bO rows) 0=r.getD (bO rows - 1) 0/\([-1]++r++[-1]:List Int).getD (bO rows+1) 0=-1:=λr hr=>by
  refine⟨DG r (i:=0) (by omega),?_,?_⟩
  ·have:=DG r (i:=bO rows - 1) (by omega)
   rwa [show bO rows - 1+1=bO rows by omega] at this
  ·rw[←hr]; exact Jo r
 have U1:fT (fu (bI rows) 0 0)=false:=by
  unfold fu
  rw[GZ,e1,jM rows (by omega),jM rows (by omega),KL,(first _ l0).1]
  rcases three (i0 0 (by omega)).1 (i0 0 (by omega)).2 hn with e | e | e <;> rw[e] <;> decide
 have U3:fT (fu (bI rows) 0 (bO rows))=false:=by
  unfold fu
  rw[GZ,e1,jM rows (by omega),jM rows (by omega),(first _ l0).2.1,(first _ l0).2.2]
  rcases three (i0 (bO rows - 1) (by omega)).1 (i0 (bO rows - 1) (by omega)).2 hn with e | e | e <;> rw[e] <;> decide
 have U4:fT (fu (bI rows) rows.length 0)=false:=by
  unfold fu
  rw[zp,e2,jM rows (by omega),jM rows (by omega),KL,(first _ l1).1]
  rcases three (i1 0 (by omega)).1 (i1 0 (by omega)).2 hn with e | e | e <;> rw[e] <;> decide
 have U5:fT (fu (bI rows) rows.length (bO rows))=false:=by
  unfold fu
  rw[zp,e2,jM rows (by omega),jM rows (by omega),(first _ l1).2.1,(first _ l1).2.2]
  rcases three (i1 (bO rows - 1) (by omega)).1 (i1 (bO rows - 1) (by omega)).2 hn with e | e | e <;> rw[e] <;> decide
 constructor
 ·have:=E6 (p:=fT) (g:=iy rows) hpos (B0:=bO rows - 1) (B:=bO rows+1) (wM hw.1 U1 U3) (wM hw.1 U4 U5) λy=>by
   have:=List.countP_le_length (p:=fT) (l:=iy rows y)
   simpa [iy] using this
  have hm:(rows.length - 1) * (bO rows+1)<=2 * 4:=mul_le_mul (by omega) (by omega)
  unfold qj
  omega
 ·unfold qj
  rw[vj]
  exact mul_le_mul (show rows.length+1<=4 by omega) (show bO rows+1<=4 by omega)
end
set_option maxHeartbeats 2000000
abbrev c9 (c:Nat):Str:=⟨#[c]⟩
theorem kD:∀cs:List Nat,((cs.map c9).map (·.length)).sum=cs.length
 | []=>rfl
 | c::cs=>by
  rw[zAo,zAo,List.sum_cons,kD cs,zBq]
  show 1+_=_
  omega
theorem zq:∀(cs:List Nat) (acc:Array Nat),((cs.map c9).foldl (λacc p=>acc++("":Str).cps++p.cps) acc).toList=acc.toList++cs
 | [],acc=>by simp
 | c::cs,acc=>by
  rw[zAo,foldl_cons,zq cs]
  show (acc++#[]++#[c]).toList++cs=_
  simp
theorem qk (cs:List Nat):(join "" (cs.map c9)).cps.toList=cs:=by
 cases cs with
 | nil=>rfl
 | cons c cs=>
  show ((cs.map c9).foldl (λacc p=>acc++("":Str).cps++p.cps) (c9 c).cps).toList=c::cs
  rw[zq]
  rfl
section
variable {P:Program}{w:World}{K:zzA}{mg:Str->Option Value}{base:Heap}{t:Ad}
theorem zu {α β:Type}(f:α->β):∀(l:List α) (i:Nat),(l.eraseIdx i).map f=(l.map f).eraseIdx i
 | [],i=>rfl
 | x::xs,0=>rfl
 | x::xs,i+1=>by
  show f x::(xs.eraseIdx i).map f=f x::(xs.map f).eraseIdx i
  rw[zu f xs i]
theorem DH {te:TE}{σ:L2.St}{H:Hp}{r:List V->Hp->VK->Prop}{R:List V->Hp->Prop}(h:te σ H λx H1=>r [x] H1 λy H2=>R [y] H2):bE (qz r (bE te cM)) cM σ H R:=h
theorem QZ {te:TE}{σ:L2.St}{H:Hp}{v:V}{R:List V->Hp->Prop}(h:Gv te σ H v)(k:∀H1,ai H H1->R [v] H1):bE te cM σ H R:=(aC h) _ k
structure TL (K:zzA)(n:Nat)(H0 H:Hp)(T:Addr)(ts:zzB)(us:List V)(b l:Nat):Prop where
 same:ai H0 H
 new:H0 T=none
 at_:H T=some (.lst us)
 reps:aF K (Hm T H) (ts.map tupI) us
 ok:∀t∈ts,aU n t
 cnt:ts.countP fT<=b
 len:ts.length<=l
theorem TL.more {n:Nat}{H0 H H':Hp}{T:Addr}{ts:zzB}{us:List V}{b l:Nat}(h:TL K n H0 H T ts us b l)(s:ai H H'):TL K n H0 H' T ts us b l:=⟨h.same.trans s,h.new,s _ _ h.at_,h.reps.same s.hm,h.ok,h.cnt,h.len⟩
theorem TL.wN {n:Nat}{H0 H:Hp}{T:Addr}{ts:zzB}{us:List V}{b l:Nat}(h:TL K n H0 H T ts us b l):us.length=ts.length:=by rw[h.reps.length,y3]
noncomputable def G0 (K:zzA):Sp:=λvs H Q _=>∃(a:Addr) (ns:List Int) (k:Int) (m:Nat),vs=[.ref a,.int k,.int m]/\aD K H a (ns.map V.int)/\ns.length<=63/\1<=m/\m<=3/\
 ∀(r T:Addr) (H':Hp) (x:Str) (ts:zzB) (ws:List V),H r=none->H T=none->ai H H'->H' r=some (.tup [.str x,.ref T])->H' T=some (.lst ws)->aF K H' (ts.map tupI) ws->Sys m x ts->Q (.ref r) H'
theorem gB {E:XK}{σ:L2.St}{H Hx:Hp}{tt:TA}{a:Addr}{ns:List Int}{k:Int}(hS:aD K H a (ns.map V.int))(hl:ns.length<=63)(sx:ai H Hx)(hg:Ga tt σ Hx [.ref a,.int k]):Gv (gS (GV K) [] E tt) σ Hx (.int (mix ns k)):=
 iI hg λH' R s kk=>⟨a,ns,_,rfl,(sx.trans s).seq hS,hl,kk⟩
theorem bF:aQ ["_law_script","_law_k","_law_marks","_law_many","_law_letters","_law_tiles_here","_law_j","_law_high","_law_wide","_law_rows","_law_y","_law_number"] ["_law_script","_law_k","_law_marks"] (aI gv):=⟨rfl,rfl,rfl,by decide +kernel,rfl,by decide +kernel,by decide +kernel⟩
theorem xX (T:Txt K mg t):bx P w K mg base cA 4 t.qH t.jt ["_law_script","_law_k","_law_marks"] (G0 K):=by
 have bT:=kX (P:=P) (w:=w) (base:=base) T
 have BH:=z5 (P:=P) (w:=w) (base:=base) T
 refine T._law_system.fn.ok bF (λvs H Q E h=>?_) (λcdv A outer s H vs Q E hr h=>?_)
 ·obtain⟨a,ns,k,m,rfl,_⟩:=h
  rfl
 obtain⟨a,ns,k,m,rfl,hS,hl,hm1,XW,kk⟩:=h
 refine⟨_,(ak (aN (i:=3) bF.nd rfl (by first | exact Or.inl rfl | exact Or.inr rfl) (av aP aj (av cy (aq T._law_mix bT (hr.mono (by first | decide | omega)) aL (aa (pv 0) (aa (pv 1) ah))) (pv 2)))) (ak (aN (i:=4) bF.nd rfl (by first | exact Or.inl rfl | exact Or.inr rfl) (jT K zDq zDu zDv (wj K) k8 (aa (bz (N':=["_law_j","_law_script","_law_k"]) (ix:=[none,some 0,some 1]) (aK (by kernel_rfl)) rfl (bK rfl T.bW (aa (pv 3) ah)) (λ_ _ _ _=>(aE (i:=0) (show List.Nodup (["_law_j","_law_script","_law_k"]:List Str) from by decide +kernel) rfl (by first | exact Or.inl rfl | exact Or.inr rfl))) (λ_ _ _ _=>bJ) (λ_ _ _ _=>(aH lg k8 (av cy (av gI (aq T._law_mix bT (hr.mono (by first | decide | omega)) aL (aa (pv 1) (aa (av aP (av aP (pv 2) aj) (pv 0)) ah))) aj) aj) (λ_ _=>rfl)))) ah))) (ak (aN (i:=5) bF.nd rfl (by first | exact Or.inl rfl | exact Or.inr rfl) (bQ ah)) (ak (b_ zA2 rfl (bK rfl T.bW (aa (av aP aj (av cy (aq T._law_mix bT (hr.mono (by first | decide | omega)) aL (aa (pv 0) (aa (av aP (pv 1) aj) ah))) aj)) ah)) (aE (i:=6) bF.nd rfl (by first | exact Or.inl rfl | exact Or.inr rfl)) (ak (aN (i:=7) bF.nd rfl (by first | exact Or.inl rfl | exact Or.inr rfl) (av aP aj (av cy (aq T._law_mix bT (hr.mono (by first | decide | omega)) aL (aa (pv 0) (aa (av aP (av aP (pv 1) aj) (av gk aj (pv 6))) ah))) aj))) (ak (aN (i:=8) bF.nd rfl (by first | exact Or.inl rfl | exact Or.inr rfl) (av aP aj (av cy (aq T._law_mix bT (hr.mono (by first | decide | omega)) aL (aa (pv 0) (aa (av aP (av aP (pv 1) aj) (av gk aj (pv 6))) ah))) aj))) (ak (aN (i:=9) bF.nd rfl (by first | exact Or.inl rfl | exact Or.inr rfl) (bQ ah)) (ak (b_ zA2 rfl (bK rfl T.bW (aa (pv 7) ah)) (aE (i:=10) bF.nd rfl (by first | exact Or.inl rfl | exact Or.inr rfl)) (aB (bw (jT K zA6 zBi zBj cT (pv 9) (aa (bz (N':=["_law_x","_law_script","_law_k","_law_j","_law_y","_law_many"]) (ix:=[none,some 0,some 1,some 6,some 10,some 3]) (aK (by kernel_rfl)) rfl (bK rfl T.bW (aa (pv 8) ah)) (λ_ _ _ _=>(aE (i:=0) (show List.Nodup (["_law_x","_law_script","_law_k","_law_j","_law_y","_law_many"]:List Str) from by decide +kernel) rfl (by first | exact Or.inl rfl | exact Or.inr rfl))) (λ_ _ _ _=>bJ) (λ_ _ _ _=>(av cy (av gI (aq T._law_mix bT (hr.mono (by first | decide | omega)) aL (aa (pv 1) (aa (av aP (av aP (av aP (av aP (pv 2) aj) (av gk aj (pv 3))) (av gk aj (pv 4))) (pv 0)) ah))) aj) (pv 5)))) ah))))) (aB (aN (i:=5) bF.nd rfl (by first | exact Or.inl rfl | exact Or.inr rfl) (av iZ (pv 5) (aq T._law_tiles BH (hr.mono (by first | decide | omega)) aL (aa (pv 9) ah)))))))))) (ak (b_ zA2 rfl (bK rfl T.bW (aa (av cy (aq T._law_mix bT (hr.mono (by first | decide | omega)) aL (aa (pv 0) (aa (av aP (pv 1) aj) ah))) aj) ah)) (aE (i:=6) bF.nd rfl (by first | exact Or.inl rfl | exact Or.inr rfl)) (ak (aN (i:=11) bF.nd rfl (by first | exact Or.inl rfl | exact Or.inr rfl) (aq T._law_mix bT (hr.mono (by first | decide | omega)) aL (aa (pv 0) (aa (av aP (av aP (pv 1) aj) (pv 6)) ah)))) (aB (fX (PW.pt (AH (cG jP (av cy (pv 11) aj) aj (cj _)) (xG (wk K (pv 5) (λ_=>rfl))))) (aB (bw (jT K zA6 PySem.F.slot_list_pop PySem.F.type_list_pop IT (pv 5) (aa (av cy (av gI (pv 11) aj) (aM (cC K) (by rfl) T.bM zBh (aa (pv 5) ah))) ah)))) (aB (bw (jT K zA6 zBi zBj cT (pv 5) (aa (eZ (wA K) (by rfl) T.tV boot_tuple (aa (bz (N':=["_law_i","_law_number","_law_many"]) (ix:=[none,some 11,some 3]) (aK (by kernel_rfl)) rfl (bK rfl T.bW (aa aj ah)) (λ_ _ _ _=>(aE (i:=0) (show List.Nodup (["_law_i","_law_number","_law_many"]:List Str) from by decide +kernel) rfl (by first | exact Or.inl rfl | exact Or.inr rfl))) (λ_ _ _ _=>bJ) (λ_ _ _ _=>(av rD (av cy (av gI (pv 1) (aH (dF K) (bQ (aa aj (aa aj (aa aj (aa aj ah))))) (pv 0) (λ_ _=>rfl))) (av aP (pv 2) aj)) aj))) ah)) ah)))))))) (aB (aX (bP (aa (pv 4) (aa (aM (Dr K P w) (by rfl) T.kC boot_sorted (aa (eZ (Oj K P w hr.units) (by rfl) T.KJ boot_set (aa (pv 5) ah)) ah)) ah)))))))))),?_⟩
 have hm0:=pO ns k
 obtain⟨n,hn⟩:∃n:Nat,1+mix ns k % (m:Int)=(n:Int):=⟨(1+mix ns k % (m:Int)).toNat,by
  have:=zCm (mix ns k) (show (m:Int)≠0 by omega)
  omega⟩
 have hn1:1<=n:=by
  have:=zCm (mix ns k) (show (m:Int)≠0 by omega)
  omega
 have hnm:n<=m:=by
  have:=zC4 (mix ns k) (show (0:Int) < m by omega)
  omega
 refine dM (bA (aS ao λH1 s1=>aW (gB hS hl s1 (au (af (by rfl)) λ_ _=>aC (af (by rfl)))) (λ_ _=>af (by rfl)) (by show (0:Int) < m; omega)) (y:=.int (n:Int)) (zA3 V.int hn)) λH1 s1=>?_
 refine bf ⟨rfl,?_⟩
 refine pF (aC (af (by rfl))) (by omega) (by omega) λH2 s2=>?_
 have s02:=s1.trans s2
 refine cH (λj=>.str (c9 (if mix ns (k+1+(0+(j:Int))) / 4 % 2=0 then 97 else 98))) (small (by omega)) (λj H3 R hj s3 k3=>?_) λD H3 hD s3 aV=>?_
 ·have XX:=pO ns (k+1+(0+(j:Int)))
  refine dh (lu ao (λH4 s4=>aW (aW (gB hS hl (s02.trans (s3.trans s4)) (au (af (by rfl)) λ_ _=>aC (aS (aS (af (by rfl)) λ_ _=>ao) λ_ _=>af (by rfl)))) (λ_ _=>ao) ⟨by decide,by decide⟩) (λ_ _=>ao) (by decide)) (by show 2<=sizeLine; decide) ?_) λH4 s4=>k3 H4 s4
  generalize mix ns (k+1+(0+(j:Int))) / 4=z
  rcases (show z % 2=0\/z % 2=1 by omega) with e | e <;> rw[e] <;> rfl
 generalize hcs:(range (n:Int).toNat).map (λ(j:Nat)=>(if mix ns (k+1+(0+(j:Int))) / 4 % 2=0 then 97 else 98:Nat))=cs
 have vm:H3 D=some (.lst ((cs.map c9).map V.str)):=by
  rw[aV,←hcs,zAy,zAy]
  rfl
 have hcl:cs.length=n:=by rw[←hcs]; simp
 have hcab:∀c∈cs,c=97\/c=98:=λc hc=>by
  rw[←hcs] at hc
  obtain⟨j,_,rfl⟩:=x5.mp hc
  split
  ·exact .inl rfl
  ·exact .inr rfl
 refine⟨"",D,cs.map c9,rfl,rfl,aD.of vm,by rw[kD,y3]; show cs.length+cs.length * 0<=16777216; omega,?_⟩
 have hxc:=qk cs
 generalize join "" (cs.map c9)=x at *
 have zo:x.length=n:=by
  show x.cps.size=n
  have:=zA3 length hxc
  simpa [hcl] using this
 have s03:=s02.trans s3
 refine bf ⟨(by show 0<=sizeLine; decide),λT0 OP=>?_⟩
 have Jq:∀z:Int,∃c:Nat,1+z % 3=(c:Int)/\1<=c/\c<=3:=λz=>⟨(1+z % 3).toNat,by omega,by omega,by omega⟩
 obtain⟨c1,hc1,Xs,Xu⟩:=Jq (mix ns (k+6))
 have hsT:ai H (upd H3 T0 (.lst [])):=s03.trans (ai.new OP _)
 refine iN (n:=c1) (aC (bA (aS ao λH4 s4=>aW (gB hS hl (hsT.trans s4) (au (af (by rfl)) λ_ _=>aC (aS (af (by rfl)) λ_ _=>ao))) (λ_ _=>ao) (by decide)) (zA3 V.int hc1))) (by omega)
  (λi σ H4=>∃(T1:Addr) (us:List V) (ts:zzB) (e6 e7 e8 e9 e10 d7:Option V),σ=[some (.ref a),some (.int k),some (.int m),some (.int n),some (.str x),some (.ref T1),e6,e7,e8,e9,e10,d7]/\TL K n H3 H4 T1 ts us (12 * i) (16 * i))
  (λH4 s4=>⟨T0,[],[],none,none,none,none,none,none,rfl,(ai.new OP _).trans s4,OP,s4 _ _ aA,by show aF K _ [] []; unfold aF; rfl,λt ht=>(by cases ht),x3 _,x3 _⟩) ?_ ?_
 ·rintro i σ H4 hi ⟨T1,us,ts,e6,e7,e8,e9,e10,d7,rfl,L4⟩
  have h04:=s03.trans L4.same
  obtain⟨hg,RK,DI,XY⟩:=Jq (mix ns (k+7+30 * (i:Int)))
  obtain⟨wd,RL,DJ,XZ⟩:=Jq (mix ns (k+8+30 * (i:Int)))
  refine dM (bA (aS ao λH5 s5=>aW (gB hS hl (h04.trans s5) (au (af (by rfl)) λ_ _=>aC (aS (aS (af (by rfl)) λ_ _=>ao) λ_ _=>aW ao (λ_ _=>af (by rfl)) (.inl ⟨by decide,by decide⟩)))) (λ_ _=>ao) (by decide)) (y:=.int (hg:Int)) (zA3 V.int RK)) λH5 s5=>?_
  refine dM (bA (aS ao λH6 s6=>aW (gB hS hl (h04.trans (s5.trans s6)) (au (af (by rfl)) λ_ _=>aC (aS (aS (af (by rfl)) λ_ _=>ao) λ_ _=>aW ao (λ_ _=>af (by rfl)) (.inl ⟨by decide,by decide⟩)))) (λ_ _=>ao) (by decide)) (y:=.int (wd:Int)) (zA3 V.int RL)) λH6 s6=>?_
  have L6:=L4.more (s5.trans s6)
  have h06:=s03.trans L6.same
  refine bf ⟨(by show 0<=sizeLine; decide),λR hR=>?_⟩
  refine iN (n:=hg) (aC (af (by rfl))) (by omega)
   (λy σ H7=>∃(rws:zzB) (vs:List V) (e10:Option V),σ=[some (.ref a),some (.int k),some (.int m),some (.int n),some (.str x),some (.ref T1),some (.int (i:Int)),some (.int (hg:Int)),some (.int (wd:Int)),some (.ref R),e10,d7]/\ai H6 H7/\H7 R=some (.lst vs)/\aF K (Hm R H7) (rws.map ie) vs/\rws.length=y/\∀r∈rws,r.length=wd/\∀f∈r,0<=f/\f < n)
   (λH7 s7=>⟨[],[],_,rfl,(ai.new hR _).trans s7,s7 _ _ aA,by show aF K _ [] []; unfold aF; rfl,rfl,λr hr=>(by cases hr)⟩) ?_ ?_
  ·rintro y σ H7 hy ⟨rws,vs,e10,rfl,s7,G1,rR7,hrl,hrw⟩
   refine⟨_,rfl,.inl ⟨rfl,_,aD.of G1⟩,?_⟩
   refine pF (aC (af (by rfl))) (by omega) (by omega) λH8 s8=>?_
   refine cH (λj=>.int (mix ns (k+9+30 * (i:Int)+3 * (y:Int)+(0+(j:Int))) / 8 % n)) (small (by omega)) (λj H9 R' hj s9 k9=>?_) λD' H9 KN s9 vm=>?_
   ·exact dh (aW (aW (gB hS hl (h06.trans (s7.trans (s8.trans s9))) (au (af (by rfl)) λ_ _=>aC (aS (aS (aS (aS (af (by rfl)) λ_ _=>ao) λ_ _=>aW ao (λ_ _=>af (by rfl)) (.inl ⟨by decide,by decide⟩)) λ_ _=>aW ao (λ_ _=>af (by rfl)) (.inl ⟨by decide,by decide⟩)) λ_ _=>af (by rfl)))) (λ_ _=>ao) ⟨by decide,by decide⟩) (λ_ _=>af (by rfl)) (by show (0:Int) < n; omega)) λic s10=>k9 ic s10
   generalize Jr:(range (wd:Int).toNat).map (λ(j:Nat)=>mix ns (k+9+30 * (i:Int)+3 * (y:Int)+(0+(j:Int))) / 8 % (n:Int))=row
   have U6:H9 D'=some (.lst (row.map V.int)):=by rw[vm,←Jr,zAy]; rfl
   have Q0:row.length=wd:=by rw[←Jr]; simp
   have Q2:∀f∈row,0<=f/\f < n:=λf hf=>by
    rw[←Jr] at hf
    obtain⟨j,_,rfl⟩:=x5.mp hf
    exact⟨zCm _ (by omega),zC4 _ (by omega)⟩
   have s79:=s8.trans s9
   have ne:D'≠R:=λz=>by rw[z] at KN; rw[s8 _ _ G1] at KN; cases KN
   refine⟨R,vs,_,rfl,rfl,s79 _ _ G1,?_,rws++[row],vs++[.ref D'],_,rfl,(s7.trans s79).put hR _,aA,?_,by simp [hrl],λr hr=>?_⟩
   ·rw[rR7.length,y3]
    exact zDs (show rws.length<=1000 by omega) (by decide)
   ·rw[v4]
    refine aF.snoc (kr.mpr ⟨D',rfl,aD.of ?_⟩) (rR7.same (s79.pG _))
    rw[mj ne,aT ne]
    exact U6
   ·rcases wT.mp hr with z | z
    ·exact hrw r z
    ·rw[w8.mp z]; exact⟨Q0,Q2⟩
  ·rintro σ H7 ⟨rws,vs,e10,rfl,s7,G1,rR7,hrl,hrw⟩
   have hne:rws≠[]:=λz=>by rw[z] at hrl; simp at hrl; omega
   have Jl:bO rws=wd:=by
    cases rws with
    | nil=>exact absurd rfl hne
    | cons r0 rr=>exact (hrw r0 zAs).1
   have OQ:Am n rws:=⟨hne,by omega,by omega,λr hr=>by rw[Jl]; exact (hrw r hr).1,λr hr=>(hrw r hr).2⟩
   have L7:=L6.more s7
   refine⟨_,rfl,bL (aC (af (by rfl))) λH8 s8=>⟨R,rws,rfl,?_,hne,OQ.Jm,by omega,by omega,λF H9 ws hF s9 U7 rF=>?_⟩⟩
   ·unfold Rep
    exact⟨R,vs,rfl,aD.of (s8 _ _ G1),rR7.same (nq.trans s8)⟩
   ·have L9:=L7.more (s8.trans s9)
    obtain⟨g1,g2⟩:=Jp (by omega) OQ
    refine⟨T1,F,us,ws,rfl,rfl,L9.at_,U7,?_,λq hq=>?_⟩
    ·rw[L9.wN,rF.length,y3]
     have:=L9.len
     exact small (by omega)
    ·have sq:ai H9 (Hm q (upd H9 q (.lst (us++ws)))):=(ai.new hq _).into hq
     refine⟨q,us++ws,ts++qj rws,_,_,_,_,_,_,rfl,L9.same.trans (ai.new hq _),L9.same.free hq,aA,?_,λt' ht=>?_,?_,?_⟩
     ·rw[v4]
      exact aF.append (L9.reps.same (nq.trans sq)) (rF.same (nq.trans sq))
     ·rcases wT.mp ht with z | z
      ·exact L9.ok t' z
      ·exact Mq OQ t' z
     ·rw[zDt]
      have:=L9.cnt
      omega
     ·rw[zAb]
      have:=L9.len
      omega
 ·rintro σ H4 ⟨T1,us,ts,e6,e7,e8,e9,e10,d7,rfl,L4⟩
  have h04:=s03.trans L4.same
  obtain⟨c2,hc2,Xv⟩:∃c:Nat,mix ns (k+100) % 4=(c:Int)/\c<=3:=⟨(mix ns (k+100) % 4).toNat,by omega,by omega⟩
  refine iN (n:=c2) (aC (bA (aW (gB hS hl h04 (au (af (by rfl)) λ_ _=>aC (aS (af (by rfl)) λ_ _=>ao))) (λ_ _=>ao) (by decide)) (zA3 V.int hc2))) (by omega)
   (λj σ H5=>∃(us:List V) (ts:zzB) (e6 e7 e8 e9 e10 d7:Option V),σ=[some (.ref a),some (.int k),some (.int m),some (.int n),some (.str x),some (.ref T1),e6,e7,e8,e9,e10,d7]/\TL K n H3 H5 T1 ts us (36+j) (48+j))
   (λH5 s5=>⟨us,ts,_,_,_,_,_,_,rfl,by
    have L5:=L4.more s5
    have h1:=L5.cnt
    have h2:=L5.len
    exact⟨L5.same,L5.new,L5.at_,L5.reps,L5.ok,by omega,by omega⟩⟩) ?_ ?_
  ·rintro j σ H5 hj ⟨us,ts,e6,e7,e8,e9,e10,d7,rfl,L5⟩
   have h05:=s03.trans L5.same
   refine dM (gB hS hl h05 (au (af (by rfl)) λ_ _=>aC (aS (aS (af (by rfl)) λ_ _=>ao) λ_ _=>af (by rfl)))) λH6 s6=>?_
   have hz0:=pO ns (k+101+(j:Int))
   generalize mix ns (k+101+(j:Int))=z at *
   have L6:=L5.more s6
   refine i8 (Bc (dZ (i7 (aW (af (by rfl)) (λ_ _=>ao) (by decide)) (λ_ _=>ao) (by rfl))) λ_ H7 s7=>su (K:=K) (af (by rfl)) (aD.of (s7 _ _ L6.at_))) (λc H7 s7=>?_) λc H7 s7=>?_
   ·have L7:=L6.more s7
    have hne:us≠[]:=λe=>by rw[e] at c; simp at c
    have hpos:0 < us.length:=List.length_pos_iff.mpr hne
    have hm1:=zCm (z / 4) (show (us.length:Int)≠0 by omega)
    have hm2:=zC4 (z / 4) (show (0:Int) < us.length by omega)
    obtain⟨q,hq⟩:∃q:Nat,z / 4 % (us.length:Int)=(q:Int):=⟨(z / 4 % (us.length:Int)).toNat,by omega⟩
    have DK:q < us.length:=by omega
    refine⟨_,rfl,.inl ⟨rfl,_,aD.of L7.at_⟩,?_⟩
    refine QZ (v:=.int (q:Int)) (bA (aW (aW (af (by rfl)) (λ_ _=>ao) ⟨by decide,by decide⟩) (λH8 s8=>jK (K:=K) (aC (af (by rfl))) (aD.of (s8 _ _ L7.at_))) (by show (0:Int) < us.length; omega)) (zA3 V.int hq)) λH8 s8=>?_
    have L8:=L7.more s8
    have X0:=L8.wN
    have hlen:=L8.len
    refine⟨T1,us,(q:Int),q,us[q],rfl,rfl,L8.at_,by omega,by omega,?_,xI DK,us.eraseIdx q,ts.eraseIdx q,_,_,_,_,_,_,rfl,L8.same.put L8.new _,L8.new,aA,?_,λt' ht=>L8.ok t' (List.mem_of_mem_eraseIdx ht),?_,?_⟩
    ·have:=seqIndex_of (show (0:Int)<=(q:Int) by omega) (show (q:Int) < (us.length:Int) by omega)
     simpa using this
    ·rw[zu]
     exact (L8.reps.erase q).same ((ai.refl H8).pG _)
    ·have:=(List.eraseIdx_sublist ts q).countP_le (p:=fT)
     have:=L8.cnt
     omega
    ·have:=List.length_eraseIdx_le ts q
     omega
   ·have L7:=L6.more s7
    have OR:(0:Int) < (n:Int)+1:=by omega
    refine⟨_,rfl,.inl ⟨rfl,_,aD.of L7.at_⟩,?_⟩
    refine DH ?_
    refine pF (jj:=4) (aC ao) (by decide) (by decide) λH8 s8=>?_
    refine cH (λi=>.int (z / (([4,64,1024,16384]:List Int).getD i 1) % ((n:Int)+1) - 1)) (small (by decide)) (λi H9 R9 U8 s9 k9=>?_) λD' H9 KN s9 vm=>?_
    ·have RM:i < 4:=U8
     have RN:iR [V.int 4,.int 64,.int 1024,.int 16384] (0+(i:Int))=some (.int (([4,64,1024,16384]:List Int).getD i 1))/\0 < ([4,64,1024,16384]:List Int).getD i 1/\([4,64,1024,16384]:List Int).getD i 1 < 1073741824:=by
      rw[zero_add]
      rcases (show i=0\/i=1\/i=2\/i=3 by omega) with rfl | rfl | rfl | rfl
      ·exact⟨rfl,by decide,by decide⟩
      ·exact⟨rfl,by decide,by decide⟩
      ·exact⟨rfl,by decide,by decide⟩
      ·exact⟨rfl,by decide,by decide⟩
     exact dh (aS (aW (aW (af (by rfl)) (λ_ _=>Oe (K:=K) (ni (au ao λ_ _=>au ao λ_ _=>au ao λ_ _=>aC ao) (by show 4<=sizeLine; decide)) (λ_ _=>af (by rfl)) RN.1) RN.2) (λ_ _=>aS (af (by rfl)) λ_ _=>ao) OR) λ_ _=>ao) λic s10=>k9 ic s10
    generalize G2:(range (4:Int).toNat).map (λ(i:Nat)=>z / (([4,64,1024,16384]:List Int).getD i 1) % ((n:Int)+1) - 1)=tl
    have hDt:H9 D'=some (.lst (tl.map V.int)):=by rw[vm,←G2,zAy]; rfl
    have tok:aU n tl:=by
     refine⟨by rw[←G2]; rfl,λf hf=>?_⟩
     rw[←G2] at hf
     obtain⟨i,_,rfl⟩:=x5.mp hf
     have h1:=zCm (z / (([4,64,1024,16384]:List Int).getD i 1)) (show (n:Int)+1≠0 by omega)
     have h2:=zC4 (z / (([4,64,1024,16384]:List Int).getD i 1)) OR
     constructor <;> omega
    refine⟨D',_,rfl,.inl ⟨aD.of hDt,λp hp=>?_⟩⟩
    have s79:=s8.trans s9
    have L9:=L7.more (s79.trans (ai.new hp (.tup (tl.map V.int))))
    have ne:p≠T1:=λe=>by rw[e,s79 _ _ L7.at_] at hp; cases hp
    refine⟨T1,us,_,rfl,rfl,L9.at_,?_,us++[.ref p],ts++[tl],_,_,_,_,_,_,rfl,L9.same.put L9.new _,L9.new,aA,?_,λt' ht=>?_,?_,?_⟩
    ·rw[L9.wN]
     have:=L9.len
     exact zDs (show ts.length<=1000 by omega) (by decide)
    ·rw[v4]
     refine aF.snoc (fY.mpr ⟨p,rfl,aJ.of ?_⟩) (L9.reps.same ((ai.refl _).pG _))
     rw[mj ne,aT ne,aA]
    ·rcases wT.mp ht with y | y
     ·exact L9.ok t' y
     ·rw[w8.mp y]; exact tok
    ·rw[zDt]
     have:=L9.cnt
     have:=List.countP_le_length (p:=fT) (l:=[tl])
     simp only [zC7] at this
     omega
    ·rw[zAb,zC7]
     have:=L9.len
     omega
  ·rintro σ H5 ⟨us,ts,e6,e7,e8,e9,e10,d7,rfl,L5⟩
   have h05:=s03.trans L5.same
   obtain⟨ps,hps,OS,hps3⟩:=nX L5.reps
   subst hps
   have hpl:ps.length<=51:=by
    have h1:=L5.wN
    have h2:=L5.len
    rw[y3] at h1
    omega
   have few:TB.Ay ps 51:=λl nd hk=>by
    have:=TB.cR (l2:=ps.map (·.2)) nd λy hy=>by
     obtain⟨p,hp,e⟩:=hk y hy
     exact x5.mpr ⟨p,hp,e⟩
    rw[y3] at this
    omega
   have ht5:∀p∈ps,aJ K H5 p.1 (p.2.map V.int):=λp hp=>nq.tup (hps3 p hp)
   have okp:∀p∈ps,aU n p.2:=λp hp=>L5.ok p.2 (by rw[←OS]; exact x5.mpr ⟨p,hp,rfl⟩)
   refine⟨_,rfl,_,rfl,T1,ps,rfl,aD.of L5.at_,ht5,λl nd hk=>zAu (few l nd hk) (by decide),λS qs G3 m1 m2 nd=>?_⟩
   have sS:=ai.new G3 (u9 P w S qs)
   have DK:qs.length<=51:=few.ps nd m1
   refine⟨S,qs,rfl,aA,λp hp=>sS.tup (ht5 p (m1 p hp)),λp hp=>?_,by omega,λl rs RO pm pw=>⟨(by show 2<=sizeLine; decide),λr RP=>?_⟩⟩
   ·have:=(okp p (m1 p hp)).1
    intro e
    rw[e] at this
    cases this
   ·have sl:=ai.new RO (.lst (rs.map rv))
    have sr:=ai.new RP (.tup [V.str x,.ref l])
    have all:=h05.trans (sS.trans (sl.trans sr))
    have mem:∀p∈rs,p∈ps:=λp hp=>m1 p (pm.mem_iff.mp hp)
    refine kk r l _ x (rs.map (·.2)) (rs.map rv) ((h05.trans (sS.trans sl)).free RP) ((h05.trans sS).free RO) all aA (sr _ _ aA) (rQ rs λp hp=>(sS.trans (sl.trans sr)).tup (ht5 p (mem p hp))) ⟨by omega,by omega,λc hc=>hcab c (by rw[←hxc]; exact hc),λt' ht=>?_,zBk.mpr pw,?_⟩
    ·obtain⟨p,hp,rfl⟩:=x5.mp ht
     rw[zo]
     exact okp p (mem p hp)
    ·have h1:(ts.countP fT)<=36+c2:=L5.cnt
     have U9:(rs.map (·.2)).Nodup:=(pm.map _).nodup_iff.mpr nd
     rw[List.countP_eq_length_filter] at h1 ⊢
     have:=TB.cR (l1:=(rs.map (·.2)).filter fT) (l2:=ts.filter fT) (show (List.filter fT (rs.map (·.2))).Nodup from List.Pairwise.filter _ U9) λy hy=>by
      obtain⟨hy1,Av⟩:=zAl.mp hy
      obtain⟨p,hp,rfl⟩:=x5.mp hy1
      exact zAl.mpr ⟨by rw[←OS]; exact x5.mpr ⟨p,mem p hp,rfl⟩,Av⟩
     omega
end
set_option maxHeartbeats 1000000
abbrev Tu:Str:="abcd"
noncomputable def KO (c:Nat):Bool:=decide (c∈Tu.cps.toList)
noncomputable def iA (x:Str):Bool:=x.cps.toList.all KO
noncomputable def xY:Sp:=λvs H Q _=>∃x:Str,vs=[.str x]/\x.length<=60/\∀H',ai H H'->Q (.bl (iA x)) H'
theorem map_getD (x:Str):(range x.cps.size).map (λi=>x.cps.getD i 0)=x.cps.toList:=by
 refine zCa (by simp) λi h1 h2=>?_
 simp at h1
 simp [getD,h1]
section
variable {P:Program}{w:World}{K:zzA}{mg:Str->Option Value}{base:Heap}{t:Ad}
theorem xZ:aQ ["text"] ["text"] (aI gm):=⟨rfl,rfl,rfl,by decide +kernel,rfl,by decide +kernel,by decide +kernel⟩
theorem x6 (T:Txt K mg t):bx P w K mg base cA 1 t.qB t.jk ["text"] xY:=by
 refine T.uD.fn.ok xZ (λvs H Q E h=>?_) (λcdv A outer s H vs Q E hr h=>?_)
 ·obtain⟨x,rfl,_⟩:=h
  rfl
 obtain⟨x,rfl,hl,k⟩:=h
 refine⟨_,(aB (aX (aM (xQ K) (by rfl) T.tU boot_all (aa (bz (N':=["sign"]) (ix:=[none]) (aK (by kernel_rfl)) rfl (N8 (pv 0)) (λ_ _ _ _=>(aE (i:=0) (show List.Nodup (["sign"]:List Str) from by decide +kernel) rfl (by first | exact Or.inl rfl | exact Or.inr rfl))) (λ_ _ _ _=>bJ) (λ_ _ _ _=>(iE F7 (pv 0) (c8 rfl T.GQ T.GR) rfl))) ah)))),?_⟩
 refine⟨_,rfl,x,rfl,?_⟩
 refine Ba (λi=>.bl (KO (x.cps.getD i 0))) (small (by show x.length<=100000; omega)) (λi H6 R hi sm kk=>?_) λD H6 hD sm aV=>?_
 ·refine⟨_,rfl,_,_,rfl,rfl,?_⟩
  rw[StrLaws.found_one]
  exact kk _ (ai.refl _)
 ·refine⟨D,(range x.cps.size).map (λi=>KO (x.cps.getD i 0)),rfl,aD.of (by rw[aV,zAy]; rfl),?_⟩
  have e:(((range x.cps.size).map (λi=>KO (x.cps.getD i 0))).all λb=>b)=iA x:=by
   unfold iA
   rw[←map_getD x,zD8,zD8]
   rfl
  rw[e]
  exact k _ sm
theorem dG {ix:List (Option Nat)}{te:TE}{σ:L2.St}{H1:Hp}{Q:Addr->Hp->Prop}{a:Addr}{xs:List V}{i₀:Nat}(f:Nat->V)(hq:aD K H1 a xs)(hz:xs.length<=sizeLine)
  (hs:∀(i:Nat) (x:V) (H:Hp) (R:VK),xs[i]?=some x->ai H1 H->(∀H6,ai H H6->R (f i) H6)->te ((cN ix σ).set i₀ (some x)) H R)
  (hd:∀D H,H1 D=none->ai H1 H->H D=some (.lst ((range xs.length).map f))->Q D H):dP (rB K a) ix (bC i₀) kq te σ H1 Q:=by
 refine lq hq hz (λi ys _=>ys=(range i).map f) (λD hD=>by simp) (λD i x ys H R1 R0 hD hx sm aV p k1 k0=>?_) λD ys H hD sm aV hl p=>?_
 ·show te ((cN ix σ).set i₀ (some x)) H R1
  exact hs i x H R1 hx sm λH6 s6=>k1 _ _ s6 (by rw[zBp,v4,p]; rfl)
 ·refine hd D H hD sm ?_
  rw[aV,p]
noncomputable def j6 (n:Nat)(t:List Int):Bool:=decide (t.length=4)&&t.all λf=>decide (-1<=f)&&decide (f < n)
noncomputable def KP (f:Int->V):V->V
 | .int r=>f r
 | v=>v
theorem x8 (f:Int->V)(p:List Int):(p.map V.int).map (KP f)=p.map f:=by rw[zAy]; rfl
theorem kE {p:List Int}{i:Nat}{x:V}(h:(p.map V.int)[i]?=some x):∃r,x=.int r/\r∈p/\p[i]?=some r:=by
 rw[wP] at h
 cases e:p[i]? with
 | none=>rw[e] at h; cases h
 | some r=>rw[e] at h; exact⟨r,(zAh h).symm,zAj e,rfl⟩
noncomputable def z6 (K:zzA):Sp:=λvs H Q _=>∃(a:Addr) (tl:List Int) (n:Nat),vs=[.ref a,.int 4,.int n]/\aJ K H a (tl.map V.int)/\tl.length<=30/\∀H',ai H H'->Q (.bl (j6 n tl)) H'
theorem z7:aQ ["fields","many","marks"] ["fields","many","marks"] (aI ig):=⟨rfl,rfl,rfl,by decide +kernel,rfl,by decide +kernel,by decide +kernel⟩
theorem z8 (T:Txt K mg t):bx P w K mg base cA 1 t.rV t.jY ["fields","many","marks"] (z6 K):=by
 refine T.wK.fn.ok z7 (λvs H Q E h=>?_) (λcdv A outer s H vs Q E hr h=>?_)
 ·obtain⟨a,tl,n,rfl,_⟩:=h
  rfl
 obtain⟨a,tl,n,rfl,hq,hl,k⟩:=h
 refine⟨_,(aB (aX (AJ (iE jP (aM (cC K) (by rfl) T.bM zBh (aa (pv 0) ah)) (pv 1) (cj _)) (rq (aM (xQ K) (by rfl) T.tU boot_all (aa (bz (N':=["field","marks"]) (ix:=[none,some 2]) (aK (by kernel_rfl)) rfl (Aj K (pv 0)) (λ_ _ _ _=>(aE (i:=0) (show List.Nodup (["field","marks"]:List Str) from by decide +kernel) rfl (by first | exact Or.inl rfl | exact Or.inr rfl))) (λ_ _ _ _=>bJ) (λ_ _ _ _=>(II QG Ey (c8 rfl T.ku T.kB) (pv 0) (pv 1)))) ah)))))),?_⟩
 refine dJ (bA (Be (q:=tl.all λf=>decide (-1<=f)&&decide (f < n)) (i7 (xR (K:=K) (aC (af (by rfl))) hq) (λ_ _=>af (by rfl)) (by rfl)) λ_ H1 s1=>(λR r=>?_)) (y:=.bl (j6 n tl)) ?_) λH1 s1=>k H1 s1
 ·refine ng (Bm (K:=K) (af (by rfl)) (s1.tup hq) λH2 s2 hq2=>?_)
  refine nt (KP λf=>.bl (decide (-1<=f)&&decide (f < n))) hq2 (small (by rw[y3]; omega)) (λi x H4 R4 hx s4 k4=>?_) λD H4 hD s4 aV=>?_
  ·obtain⟨f,rfl,_,_⟩:=kE hx
   exact dh (Jb ao (λ_ _=>af (by rfl)) λ_ _=>af (by rfl)) λH5 s5=>k4 H5 s5
  ·refine⟨D,tl.map λ(f:Int)=>decide (-1<=f)&&decide (f < (n:Int)),rfl,aD.of (by rw[aV,x8,zAy]; rfl),?_⟩
   rw[zD8]
   exact r _ (s2.trans s4)
 ·unfold j6
  rw[y3]
  congr 2
  simp
  omega
noncomputable def mG:zzB->Bool
 | a::b::r=>HT.lexLt a b&&mG (b::r)
 | _=>true
theorem wO:∀ts:zzB,((range (ts.length - 1)).all λi=>HT.lexLt (ts.getD i []) (ts.getD (i+1) []))=mG ts
 | []=>rfl
 | [a]=>rfl
 | a::b::r=>by
  have ih:=wO (b::r)
  show ((range (r.length+1)).all _)=(HT.lexLt a b&&mG (b::r))
  rw[List.range_succ_eq_map,List.all_cons,zD8,←ih]
  rfl
noncomputable def Js (K:zzA):Sp:=λvs H Q _=>∃(a:Addr) (ts:zzB),vs=[.ref a]/\Rep K H (.lst (ts.map tupI)) (.ref a)/\ts.length<=9000/\∀H',ai H H'->Q (.bl (mG ts)) H'
theorem BI {K:zzA}{H:Hp}{ds:List Dt}{a:Addr}(h:Rep K H (.lst ds) (.ref a)):∃xs,aD K H a xs/\aF K H ds xs:=by
 unfold Rep at h
 obtain⟨a',xs,e,q,r⟩:=h
 cases e
 exact⟨xs,q,r⟩
theorem Jt:aQ ["tiles"] ["tiles"] (aI pH):=⟨rfl,rfl,rfl,by decide +kernel,rfl,by decide +kernel,by decide +kernel⟩
theorem Ju (T:Txt K mg t):bx P w K mg base cA 1 t.DA t.tR ["tiles"] (Js K):=by
 refine T.KH.fn.ok Jt (λvs H Q E h=>?_) (λcdv A outer s H vs Q E hr h=>?_)
 ·obtain⟨a,ts,rfl,_⟩:=h
  rfl
 obtain⟨a,ts,rfl,hrep,hl,k⟩:=h
 obtain⟨xs,hq,hr0⟩:=BI hrep
 have zo:xs.length=ts.length:=by rw[hr0.length,y3]
 have at_:∀i,i < ts.length->∃c,xs[i]?=some (.ref c)/\aJ K H c ((ts.getD i []).map V.int):=λi hi=>by
  obtain⟨v,hv,hr⟩:=hr0.get i (tupI (ts.getD i [])) (by rw[wP,y4,xI hi]; rfl)
  obtain⟨c,rfl,hc⟩:=fY.mp hr
  exact⟨c,hv,hc⟩
 refine⟨_,(aB (aX (aM (xQ K) (by rfl) T.tU boot_all (aa (bz (N':=["place","tiles"]) (ix:=[none,some 0]) (aK (by kernel_rfl)) rfl (rC rfl T.bW (aa aj (aa (aM (cC K) (by rfl) T.bM zBh (aa (pv 0) ah)) ah))) (λ_ _ _ _=>(aE (i:=0) (show List.Nodup (["place","tiles"]:List Str) from by decide +kernel) rfl (by first | exact Or.inl rfl | exact Or.inr rfl))) (λ_ _ _ _=>bJ) (λ_ _ _ _=>(iE (Tn K hr.units) (aH (dF K) (pv 1) (av rD (pv 0) aj) (λ_ _=>rfl)) (aH (dF K) (pv 1) (pv 0) (λ_ _=>rfl)) (cj _)))) ah)))),?_⟩
 refine b9 (ng (Mb (i:=1) (j:=(ts.length:Int)) (au ao λH1 s1=>aC (bA (jK (K:=K) (aC (af (by rfl))) (s1.seq hq)) (by rw[zo]))) ⟨by decide,by decide,by omega,by omega⟩ λH1 s1=>?_))
 have hn:((ts.length:Int) - 1).toNat=ts.length - 1:=by omega
 rw[hn]
 refine cH (λi=>.bl (HT.lexLt (ts.getD i []) (ts.getD (i+1) []))) (small (by omega)) (λi H2 R hi s2 k2=>?_) λD H2 hD s2 aV=>?_
 ·obtain⟨c,hc,qc⟩:=at_ i (by omega)
  obtain⟨d,hd,qd⟩:=at_ (i+1) (by omega)
  have s12:=s1.trans s2
  refine dh (Oo (K:=K) (fh (K:=K) (af (by rfl)) (λ_ _=>bA (aS (af (by rfl)) λ_ _=>ao) (y:=.int (i:Int)) (by congr 1; omega)) (s12.seq hq) (aG hc)) (λH3 s3=>fh (K:=K) (af (by rfl)) (λ_ _=>bA (af (by rfl)) (y:=.int ((i+1:Nat):Int)) (by congr 1; omega)) ((s12.trans s3).seq hq) (aG hd)) (s12.tup qc) (s12.tup qd)) λH3 s3=>k2 H3 s3
 ·refine⟨D,(range (ts.length - 1)).map λi=>HT.lexLt (ts.getD i []) (ts.getD (i+1) []),rfl,aD.of (by rw[aV,zAy]; rfl),?_⟩
  rw[zD8,show (range (ts.length - 1)).all ((λb=>b) ∘ λi=>HT.lexLt (ts.getD i []) (ts.getD (i+1) []))=mG ts from wO ts]
  exact k _ (s1.trans s2)
noncomputable def vn (x:Str)(ts:zzB):Bool:=(decide (x.length<=16)&&iA x)&&(ts.all (j6 x.length)&&mG ts)
noncomputable def KQ (K:zzA)(H:Hp)(a:Addr)(x:Str)(ts:zzB):Prop:=∃T,aJ K H a [.str x,.ref T]/\Rep K H (.lst (ts.map tupI)) (.ref T)
structure OT (x:Str)(ts:zzB):Prop where
 short:x.length<=60
 few:ts.length<=9000
 small:∀t∈ts,t.length<=30
noncomputable def BJ (K:zzA):Sp:=λvs H Q _=>∃(a:Addr) (x:Str) (ts:zzB),vs=[.ref a]/\KQ K H a x ts/\OT x ts/\∀H',ai H H'->Q (.bl (vn x ts)) H'
theorem nE:aQ ["system","letters","tiles"] ["system"] (aI i9):=⟨rfl,rfl,rfl,by decide +kernel,rfl,by decide +kernel,by decide +kernel⟩
theorem BK (T:Txt K mg t):bx P w K mg base cA 2 t.uv t.kN ["system"] (BJ K):=by
 have z9:=x6 (P:=P) (w:=w) (base:=base) T
 have BL:=z8 (P:=P) (w:=w) (base:=base) T
 have Mr:=Ju (P:=P) (w:=w) (base:=base) T
 refine T.zm.fn.ok nE (λvs H Q E h=>?_) (λcdv A outer s H vs Q E hr h=>?_)
 ·obtain⟨a,x,ts,rfl,_⟩:=h
  rfl
 obtain⟨a,x,ts,rfl,⟨L,hT,hrep⟩,hM,k⟩:=h
 have X3:=hM.short
 have U_:=hM.few
 refine⟨_,(ak (fX (cG QF (aM (cC K) (by rfl) T.bM zBh (aa (pv 0) ah)) aj (cj _)) (aB (aX lZ)) dw) (ak (aN (i:=1) nE.nd rfl (by first | exact Or.inl rfl | exact Or.inr rfl) (aH (bg K) (pv 0) aj (λ_ _=>rfl))) (ak (aN (i:=2) nE.nd rfl (by first | exact Or.inl rfl | exact Or.inr rfl) (aH (bg K) (pv 0) aj (λ_ _=>rfl))) (ak (fX (PW.pt (Kc (cG Kh (aM (cC K) (by rfl) T.bM zBh (aa (pv 1) ah)) (c8 rfl T.r_ T.sf) (cj _)) (F0 (AI (jN (aq T.uD z9 (hr.mono (by first | decide | omega)) aL (aa (pv 1) ah))))))) (aB (aX lZ)) dw) (aB (aX (AJ (aM (xQ K) (by rfl) T.tU boot_all (aa (bz (N':=["tile","letters"]) (ix:=[none,some 1]) (aK (by kernel_rfl)) rfl (bN K (pv 2)) (λ_ _ _ _=>(aE (i:=0) (show List.Nodup (["tile","letters"]:List Str) from by decide +kernel) rfl (by first | exact Or.inl rfl | exact Or.inr rfl))) (λ_ _ _ _=>bJ) (λ_ _ _ _=>(aq T.wK BL (hr.mono (by first | decide | omega)) aL (aa (pv 0) (aa (c8 rfl T.zY T.zZ) (aa (aM (cC K) (by rfl) T.bM zBh (aa (pv 1) ah)) ah)))))) ah)) (rq (aq T.KH Mr (hr.mono (by first | decide | omega)) aL (aa (pv 2) ah)))))))))),?_⟩
 refine wg (b:=false) (gT (dZ (N9 (xR (K:=K) (aC (af (by rfl))) hT) (λ_ _=>ao) (by rfl))) (by rfl)) (λc=>absurd c (by decide)) λc H1 s1=>?_
 refine dM (aO (K:=K) (af (by rfl)) (λ_ _=>ao) (s1.tup hT) (aG (j:=0) rfl)) λH2 s2=>?_
 refine dM (aO (K:=K) (af (by rfl)) (λ_ _=>ao) ((s1.trans s2).tup hT) (aG (j:=1) rfl)) λH3 s3=>?_
 have s03:=s1.trans (s2.trans s3)
 refine wg (b:=!(decide (x.length<=16)&&iA x)) (gT (Kr (dZ (aS (bZ (K:=K) (aC (af (by rfl))) (small (by omega))) λ_ _=>ao)) λ_ H4 s4=>Bb (iH (iI (aC (af (by rfl))) λH5 R' s5 k5=>⟨x,rfl,by omega,k5⟩))) ?_) (λc H4 s4=>?_) λc H4 s4=>?_
 ·rw[Bool.not_and]
  congr 1
  by_cases c:x.length<=16
  ·rw[zAm c,zAv (by omega)]; rfl
  ·rw[zAv c,zAm (by omega)]; rfl
 ·have e:vn x ts=false:=by
   unfold vn
   rw[Bool.not_eq_true'] at c
   rw[c,Bool.false_and]
  have:=k H4 (s03.trans s4)
  rw[e] at this
  exact this
 have c':(decide (x.length<=16)&&iA x)=true:=by simpa using c
 have s04:=s03.trans s4
 have KR:=hrep.same s04
 obtain⟨xs,hq,hr0⟩:=BI KR
 have zo:xs.length=ts.length:=by rw[hr0.length,y3]
 refine dJ (v:=.bl (vn x ts)) (bA (Be (p:=ts.all (j6 x.length)) (q:=mG ts) (λR r=>?_) λ_ H5 s5=>iI (aC (af (by rfl))) λH6 R' s6 k6=>⟨L,ts,rfl,KR.same (s5.trans s6),U_,k6⟩) (by unfold vn; rw[c',Bool.true_and])) λH5 s5=>k H5 (s04.trans s5)
 refine ng (jS (K:=K) (af (by rfl)) hq λH5 s5 zv=>?_)
 refine dG (λi=>.bl (j6 x.length (ts.getD i []))) zv (small (by omega)) (λi v H6 R6 hv s6 k6=>?_) λD H6 hD s6 aV=>?_
 ·have hi:i < ts.length:=by have:=(zAp.mp hv).1; omega
  obtain⟨v',hv',hr⟩:=hr0.get i (tupI (ts.getD i [])) (by rw[wP,y4,xI hi]; rfl)
  rw[hv] at hv'
  cases hv'
  obtain⟨c,rfl,hc⟩:=fY.mp hr
  have hm:ts.getD i []∈ts:=getD_mem hi
  exact dh (iI (au (af (by rfl)) λ_ _=>au ao λ_ _=>aC (bZ (K:=K) (aC (af (by rfl))) (small (by omega)))) λH7 R7 s7 k7=>⟨c,ts.getD i [],x.length,rfl,(s5.trans (s6.trans s7)).tup hc,hM.small _ hm,k7⟩) λH7 s7=>k6 H7 s7
 ·refine⟨D,(range xs.length).map λi=>j6 x.length (ts.getD i []),rfl,aD.of (by rw[aV,zAy]; rfl),?_⟩
  have e:(((range xs.length).map λi=>j6 x.length (ts.getD i [])).all λb=>b)=ts.all (j6 x.length):=by
   rw[zo]
   have:(range ts.length).map (λi=>ts.getD i [])=ts:=by
    refine zCa (by simp) λi h1 h2=>?_
    simp [h2]
   conv=>rhs; rw[←this]
   rw[zD8,zD8]
   rfl
  rw[e]
  exact r _ (s5.trans s6)
end
end jL
namespace L2
open PySem PySem.Spec PyProof.Rows
structure lN (h:Heap)(d:Addr)(es:Array DictEntry)(ep:Nat):Prop where
 lo:(d == sysModules)=false
 ob:∃o,h.get? d=some o/\o.ExactDict/\o.data=.dict es ep
theorem lN.at {h h':Heap}{d:Addr}{es:Array DictEntry}{ep:Nat}(x:lN h d es ep)(k:∀o,h.get? d=some o->h'.get? d=some o):lN h' d es ep:=⟨x.lo,x.ob.imp λ_ z=>⟨k _ z.1,z.2⟩⟩
theorem lN.typeIs {s:Shared}{d:Addr}{es:Array DictEntry}{ep:Nat}(x:lN s.heap d es ep):s.TypeIs (.ref d) "dict":=by
 obtain⟨o,ho,hc,_⟩:=x.ob
 exact⟨o,ho,hc.1⟩
section
variable {P:Program}{w:World}{A:Around}{E:zzE}{s:Shared}{d it:Addr}{es:Array DictEntry}{ep i:Nat}
theorem BN {Q:zzE}(x:lN s.heap d es ep)(q:Q (.ref s.heap.objs.size) { s with heap:=s.heap.push { cls:=.type "dict_keyiterator",data:=.fields #[.ref d,.int 0 0,.int es.size 0,.int ep 0] } }):wpAny (model P w) A (pyIter (.ref d)) Q E s:=by
 have tI:=x.typeIs
 obtain⟨o,ho,hc,hdat⟩:=x.ob
 refine wpAny_pyIter_slot tI F.slot_dict_iter (zBe F.slot_dict_iter tI F.entry_dict_iter ?_ (F.args_dict_iter_1 _))
 unfold Builtin.«dict.__iter__»
 refine yB ?_
 unfold Builtin.Dict.dictSlotNone
 refine yB (wpAny_notOrdered_dict tI ?_)
 show wpAny _ _ (pure (Value.ref d)) _ _ s
 refine y6 ?_
 show wpAny _ _ (showsAll d >>= _) _ _ s
 unfold showsAll
 rw[xL (by rw[x.lo]; exact zAf)]
 refine yB (y6 (yB (zCl ho hdat (yB (wpAny_dictEpoch ho hdat ?_)))))
 exact yB (zBl (y6 ⟨_,rfl,"dict_keyiterator",_,⟨_,wE _ rfl,rfl⟩,F.slot_dict_keyiterator_next.lookup,by simpa [rawInt] using q⟩))
theorem zw {Q:Option Value->Shared->Prop}(x:lN s.heap d es ep)(k:s.heap.IsKeyIter it d i es.size ep)(hi:i < es.size)(q:∀h',h'.IsKeyIter it d (i+1) es.size ep->Heap.SameBut it s.heap h'->Q (some es[i].key) { s with heap:=h' }):wpAny (model P w) A (pyNext (.ref it)) Q E s:=by
 have tI:=k.typeIs
 obtain⟨oi,zx,DL,hdi⟩:=id k
 obtain⟨o,ho,hc,hdat⟩:=x.ob
 unfold pyNext
 refine yB (zEc (zBo (name:=ofString "__next__") tI zDn (zBe zDn tI F.entry_dict_keyiterator_next ?_ (F.args_dict_keyiterator_next_1 _))))
 refine yB (y6 (yB (yB ?_)))
 first | refine yB (zDj tI (y6 (yB (wpAny_fieldsOf zx hdi ?_)))) | refine yB (wpAny_typeNameOf_keyiter tI (y6 (yB (wpAny_fieldsOf zx hdi ?_))))
 simp only [show Builtin.Dict_items.ownsTuple "dict_keyiterator"=false from by decide,zAi,zBa]
 show wpAny _ _ (if (Value.ref d == Value.none)=true then _ else _) _ _ s
 rw[xL (show ¬ (Value.ref d == Value.none)=true from λz=>zAf z)]
 refine yB (y6 (yB (zCl ho hdat ?_)))
 rw[xL (by simp)]
 refine yB (y6 (yB (wpAny_dictEpoch ho hdat ?_)))
 rw[xL (by simp)]
 refine y6 ?_
 simp only [show ¬ ((i:Int) < 0) from by omega,zBa,zAg,kS hi]
 refine yB ?_
 first | refine yB (zDj tI (y6 (yB (wpAny_isOneOf_keyiter tI ?_)))) | refine yB (wpAny_typeNameOf_keyiter tI (y6 (yB (wpAny_isOneOf_keyiter tI ?_))))
 show wpAny _ _ (setField (.ref it) 1 (rawInt ((i:Int)+1)) >>= _) _ _ s
 refine yB (zD1 zx hdi (by simp) ?_)
 have k':(s.heap.update it (Obj.mapFields (·.setIfInBounds 1 (rawInt ((i:Int)+1))))).IsKeyIter it d (i+1) es.size ep:=⟨_,zB4 _ zx (Obj.isFreed_of_fields (Obj.data_mapFields hdi _)),(Obj.cls_mapFields ..).trans DL,by rw[Obj.data_mapFields hdi]; simp [rawInt]⟩
 refine yB (zBs (yB (wpAny_isOneOf_keyiter (s:={ s with heap:=s.heap.update it (Obj.mapFields (·.setIfInBounds 1 (rawInt ((i:Int)+1)))) }) k'.typeIs ?_)))
 show wpAny _ _ (pure es[i].key) _ _ _
 exact y6 (y6 ⟨_,rfl,y6 (q _ k' (zB1 ..))⟩)
theorem E7 {β:Type}{R:β->Shared->Prop}{Q:Option Value->Shared->Prop}(hh:A.handled=none)(q:∀h',(∀b o,s.heap.get? b=some o->h'.get? b=some o)->Q none { s with heap:=h' }) :
  wpAny (model P w) A.in1 (newExc (.type "StopIteration") [] >>= λv=>raiseNew v) R (λe s'=>wpAny (model P w) A (do let b ←isInstance e (.type "StopIteration"); if b=true then pure none else throw e) Q E s') s:=by
 refine yB ?_
 simp only [newExc,newTuple]
 refine yB (zBl (yB (m:=firstArgMember _ _) (wpAny_of_eq (a:=Value.none) (by first | rfl | (simp only [firstArgMember]; rfl)) (zBl ?_ (by size_fits)))) (by size_fits))
 simp only [raiseNew]
 refine yB (wpAny_handled ?_)
 rw[show A.in1.handled=none from hh]
 refine yB (y6 (wpAny_throw ?_))
 refine yB (zD5 (b:=true) (T:="StopIteration") ⟨_,wE _ rfl,rfl⟩ isSubtype_stop (y6 ?_))
 exact q _ λb o e=>y8 _ (y8 _ e)
theorem BO {Q:Option Value->Shared->Prop}(hh:A.handled=none)(x:lN s.heap d es ep)(k:s.heap.IsKeyIter it d i es.size ep)(hi:es.size<=i)(q:∀h',Heap.ExtBut it s.heap h'->Q none { s with heap:=h' }):wpAny (model P w) A (pyNext (.ref it)) Q E s:=by
 have tI:=k.typeIs
 obtain⟨oi,zx,DL,hdi⟩:=id k
 obtain⟨o,ho,hc,hdat⟩:=x.ob
 unfold pyNext
 refine yB (zEc (zBo (name:=ofString "__next__") tI zDn (zBe zDn tI F.entry_dict_keyiterator_next ?_ (F.args_dict_keyiterator_next_1 _))))
 refine yB (y6 (yB (yB ?_)))
 first | refine yB (zDj tI (y6 (yB (wpAny_fieldsOf zx hdi ?_)))) | refine yB (wpAny_typeNameOf_keyiter tI (y6 (yB (wpAny_fieldsOf zx hdi ?_))))
 simp only [show Builtin.Dict_items.ownsTuple "dict_keyiterator"=false from by decide,zAi,zBa]
 show wpAny _ _ (if (Value.ref d == Value.none)=true then _ else _) _ _ s
 rw[xL (show ¬ (Value.ref d == Value.none)=true from λz=>zAf z)]
 refine yB (y6 (yB (zCl ho hdat ?_)))
 rw[xL (by simp)]
 refine yB (y6 (yB (wpAny_dictEpoch ho hdat ?_)))
 rw[xL (by simp)]
 refine y6 ?_
 simp only [show ¬ ((i:Int) < 0) from by omega,zBa,zAg,zBt hi]
 refine yB ?_
 first | refine yB (zDj tI (y6 ?_)) | refine yB (wpAny_typeNameOf_keyiter tI (y6 ?_))
 show wpAny _ _ (setField (.ref it) 0 .none >>= _) _ _ s
 refine yB (zD1 zx hdi (by simp) ?_)
 show wpAny _ _ (newExc (.type "StopIteration") [] >>= _) _ _ _
 exact E7 hh λh' kk=>q h' λb o hb e=>kk b o ((zB1 ..).extBut b o hb e)
end
open TB
section
variable {X:Cx}{pins:zzC}{σ:St}{H:Hp}{s:Shared}{pos:Pos}
theorem Ms {P:Program}{w:World}{d:Addr}{es:Array DictEntry}{ep:Nat}:PySem.W.KdlSrc P w "dict" d d es.size (λi v=>∃h:i < es.size,v=es[i].key) (λh=>lN h d es ep) where
 type:=λ_ x=>x.typeIs
 there:=λh x=>by
  obtain⟨o,ho,_⟩:=x.ob
  exact⟨kA ho,kA ho⟩
 keep:=λ_ _ x k=>x.at λo e=>k d (.inl rfl) o e
 notList:=by decide
 notTuple:=by decide
 hint:=λ_ _ _ _ x q=>PySem.W.kdl_hint_dict x.typeIs q
 iter:=λA s hh x=>by
  have hne:d≠s.heap.objs.size:=by
   obtain⟨o,ho,_⟩:=x.ob
   exact zAn (kA ho)
  refine⟨_,λi h=>h.IsKeyIter s.heap.objs.size d i es.size ep/\lN h d es ep,λ_ _ q=>BN x q,⟨λb hb=>by simp at hb; simp [hb],λ_ _ _ st k=>⟨st.1.at λo e=>k _ (by simp) o e,st.2.at λo e=>k d (by simp) o e⟩,λi s' Q E hi st q=>?_,λs' Q E st q=>?_,λ_ _ _ _ st q=>wpAny_pyIter_keyiter st.1 q⟩,⟨_,wE _ rfl,rfl,rfl⟩,x.at λo e=>y8 _ e⟩
  ·exact zw st.2 st.1 hi λh' k' b'=>q _ h' s'.toks ⟨hi,rfl⟩ ⟨k',st.2.at λo e=>b'.extBut d o hne e⟩ λb o hb e=>b'.extBut b o (by simpa using hb) e
  ·exact BO hh st.2 st.1 (x3 _) λh' b'=>q h' s'.toks λb o hb e=>b' b o (by simpa using hb) e
end
abbrev gP (TI TO:Addr) (f0 f1:Value):Obj:={ cls:=.type "zip",dict:=none,data:=.fields #[f0,f1,.bool false,.ref TI,.ref TO],slots:=#[] }
noncomputable def Own (v:Value):Prop:=v=.none\/∃n:Nat,v=rawInt n
section
variable {prog:Program}{w:World}{A:Around}{E:zzE}{s:Shared}
theorem Jv {a:Addr}{Q:Option Obj->Shared->Prop}(h:Q (s.heap.get? a) s):wpAny (model prog w) A (loadIfAlive a) Q E s:=fun Γ p hΓ=>h
theorem BP {z TI TO:Addr}{f0 f1:Value}{Q:Bool->Shared->Prop}(hz:s.heap.get? z=some (gP TI TO f0 f1))(hf:Own f0)
  (hQ:∀b h' g1,h'.get? z=some (gP TI TO f0 g1)->Heap.SameBut z s.heap h'->Q b { s with heap:=h' }):wpAny (model prog w) A (ownedTupleIsFree (.ref z)) Q E s:=by
 unfold ownedTupleIsFree
 refine yB (zCf hz rfl (x:=f0) rfl ?_)
 rcases hf with rfl | ⟨n,rfl⟩
 ·exact y6 (hQ true s.heap f1 hz ⟨rfl,λ_ _=>rfl⟩)
 ·dsimp only [rawInt]
  refine yB (Jv ?_)
  split
  ·exact y6 (hQ true s.heap f1 hz ⟨rfl,λ_ _=>rfl⟩)
  ·refine yB (zCf hz rfl (x:=f1) rfl ?_)
   split
   ·exact yB (zC9 hz (by simp) λh' hz' hs'=>y6 (hQ false h' _ hz' hs'))
   ·exact y6 (hQ false s.heap f1 hz ⟨rfl,λ_ _=>rfl⟩)
theorem mH {it t:Addr}{i:Nat}{items:Array Value}{x:Value}{Q:zzE}(hit:s.heap.IsTupleIter it t i)(ht:s.heap.IsTuple t items)(hx:items[i]?=some x)
  (hQ:∀h',h'.IsTupleIter it t (i+1)->Heap.SameBut it s.heap h'->Q x { s with heap:=h' }):wpAny (model prog w) A (nextOf (.ref it)) Q E s:=by
 obtain⟨o,ho,hc,hd⟩:=id hit
 obtain⟨ol,hol,_,nl,hdl⟩:=ht
 unfold nextOf
 refine yB (zBo (name:=ofString "__next__") hit.typeIs F.slot_tuple_iterator_next
  (zBe F.slot_tuple_iterator_next hit.typeIs F.entry_tuple_iterator_next ?_ (F.args_tuple_iterator_next_1 _)))
 show wpAny _ _ (field (.ref it) 0 >>= _) _ _ s
 refine yB (zCf ho hd (x:=.ref t) rfl ?_)
 show wpAny _ _ (if (Value.ref t == Value.none)=true then _ else _) _ _ s
 rw[xL (show ¬ ((Value.ref t == Value.none)=true) from zAf)]
 show wpAny _ _ (field (.ref it) 1 >>= _) _ _ s
 refine yB (zCf ho hd (x:=.int i 0) rfl ?_)
 show wpAny _ _ (seqItems? (.ref t) >>= _) _ _ s
 refine yB (zCk hol hdl ?_)
 simp only [zAg,hx]
 refine yB (zD1 ho hd (by simp) (y6 ⟨x,rfl,y6 (hQ _ ?_ (zB1 ..))⟩))
 exact⟨_,zB4 _ ho (Obj.isFreed_of_fields (Obj.data_mapFields hd _)),(Obj.cls_mapFields ..).trans hc,by
  rw[Obj.data_mapFields hd]; simp [rawInt]⟩
theorem uI {it t:Addr}{i:Nat}{items:Array Value}{Q:zzE}(hh:A.handled=none)(hit:s.heap.IsTupleIter it t i)(ht:s.heap.IsTuple t items)(hx:items[i]?=none)
  (hE:∀h' e,Heap.ExtBut it s.heap h'->(∃o,h'.get? e=some o/\o.cls=.type "StopIteration")->E (.ref e) { s with heap:=h' }):wpAny (model prog w) A (nextOf (.ref it)) Q E s:=by
 obtain⟨o,ho,hc,hd⟩:=id hit
 obtain⟨ol,hol,_,nl,hdl⟩:=ht
 unfold nextOf
 refine yB (zBo (name:=ofString "__next__") hit.typeIs F.slot_tuple_iterator_next
  (zBe F.slot_tuple_iterator_next hit.typeIs F.entry_tuple_iterator_next ?_ (F.args_tuple_iterator_next_1 _)))
 show wpAny _ _ (field (.ref it) 0 >>= _) _ _ s
 refine yB (zCf ho hd (x:=.ref t) rfl ?_)
 show wpAny _ _ (if (Value.ref t == Value.none)=true then _ else _) _ _ s
 rw[xL (show ¬ ((Value.ref t == Value.none)=true) from zAf)]
 show wpAny _ _ (field (.ref it) 1 >>= _) _ _ s
 refine yB (zCf ho hd (x:=.int i 0) rfl ?_)
 show wpAny _ _ (seqItems? (.ref t) >>= _) _ _ s
 refine yB (zCk hol hdl ?_)
 simp only [zAg,hx]
 refine yB (zCo (yB (zD1 ho hd (by simp) ?_)))
 show wpAny _ _ (newExc (.type "StopIteration") [] >>= _) _ _ _
 refine yB ?_
 simp only [newExc,newTuple]
 refine yB (zBl ?_ (by size_fits))
 refine yB (m:=firstArgMember _ _) (wpAny_of_eq (a:=Value.none) (by first | rfl | (simp only [firstArgMember]; rfl)) ?_)
 refine zBl ?_ (by size_fits)
 simp only [raiseNew]
 refine yB (wpAny_handled ?_)
 first | rw[show A.in1.handled=none from hh] | rw[hh]
 refine yB (y6 (wpAny_throw ?_))
 exact hE _ _ (((zB1 ..).extBut.push _).push _) ⟨_,wE _ rfl,rfl⟩
theorem G4 {z TI TO i1 i2 l1 l2:Addr}{k:Nat}{xs ys:Array Value}{x y a b f0 f1:Value}{Q:zzE}(D:ZipApart z TI TO i1 i2 l1 l2)
  (hz:s.heap.get? z=some (gP TI TO f0 f1)) (hf:Own f0) (hTI:IsPair s.heap TI (.ref i1) (.ref i2)) (hTO:IsPair s.heap TO a b)
  (h1:s.heap.IsTupleIter i1 l1 k) (h2:s.heap.IsTupleIter i2 l2 k) (hl1:s.heap.IsTuple l1 xs) (hl2:s.heap.IsTuple l2 ys) (hx:xs[k]?=some x) (hy:ys[k]?=some y)
  (hQ:∀h' g0 g1 a' b',Own g0->h'.get? z=some (gP TI TO g0 g1)->IsPair h' TO a' b'->h'.IsTupleIter i1 l1 (k+1)->h'.IsTupleIter i2 l2 (k+1)->IsPair h' s.heap.objs.size x y->
   (∀c o,c≠z->c≠TO->c≠i1->c≠i2->s.heap.get? c=some o->h'.get? c=some o)->Q (.ref s.heap.objs.size) { s with heap:=h' }) :
  wpAny (model prog w) A (Builtin.«zip.__next__» ⟨[.ref z],[]⟩) (λfin s'=>∃v,fin=.done (.ret v)/\Q v s') E s:=by
 show wpAny _ _ (field (.ref z) 2 >>= _) _ _ _
 refine yB (zCf hz rfl (x:=.bool false) rfl ?_)
 show wpAny _ _ (field (.ref z) 3 >>= _) _ _ _
 refine yB (zCf hz rfl (x:=.ref TI) rfl (yB (zCk hTI rfl ?_)))
 show wpAny _ _ (ownedTupleIsFree (.ref z) >>= _) _ _ _
 refine yB (BP hz hf λb0 H0 g1 Z0 S0=>?_)
 have it:∀{h h':Heap} {i t k c:Addr},h.IsTupleIter i t k->Heap.SameBut c h h'->i≠c->h'.IsTupleIter i t k:=λx y q=>x.extBut y.extBut q
 have tp:∀{h h':Heap} {t c:Addr} {v:Array Value},h.IsTuple t v->Heap.SameBut c h h'->t≠c->h'.IsTuple t v:=λx y q=>x.extBut y.extBut q
 cases b0 with
 | true=>
  simp only [zCt]
  refine yB (zCo (yB (zCf Z0 rfl (x:=.ref TO) rfl (yB (zC9 Z0 (by simp) λH1 Z1 S1=>?_)))))
  replace Z1:H1.get? z=some (gP TI TO .ellipsis g1):=Z1
  refine yB ?_
  simp only [List.zipIdx_cons,List.zipIdx_nil,zEf,forIn_nil]
  refine yB (yB (wpAny_onRaise ?_))
  show wpAny _ _ (nextOf (.ref i1) >>= _) _ _ _
  refine yB (mH (it (it h1 S0 D.i1z) S1 D.i1z) (tp (tp hl1 S0 D.l1z) S1 D.l1z) hx λH2 OU S2=>y6 ?_)
  have O2:IsPair H2 TO a b:=S2.extBut _ _ D.TOi1 (S1.extBut _ _ D.TOz (S0.extBut _ _ D.TOz hTO))
  refine yB (zCk O2 rfl (yB (wpAny_updateSeq_pair O2 λH3 O3 S3=>?_)))
  replace O3:IsPair H3 TO x b:=O3
  refine yB (wpAny_letGo (y6 ?_))
  refine yB (yB (wpAny_onRaise ?_))
  show wpAny _ _ (nextOf (.ref i2) >>= _) _ _ _
  refine yB (mH (it (it (it (it h2 S0 D.i2z) S1 D.i2z) S2 D.i12.symm) S3 D.TOi2.symm) (tp (tp (tp (tp hl2 S0 D.l2z) S1 D.l2z) S2 D.l2i1) S3 D.l2TO) hy λH4 L4 S4=>y6 ?_)
  have O4:IsPair H4 TO x b:=S4.extBut _ _ D.TOi2 O3
  refine yB (zCk O4 rfl (yB (wpAny_updateSeq_pair O4 λH5 O5 S5=>?_)))
  replace O5:IsPair H5 TO x y:=O5
  refine yB (wpAny_letGo (y6 (y6 ?_)))
  refine yB (zCk O5 rfl (yB (wpAny_newTuple ?_)))
  have hsz:H5.objs.size=s.heap.objs.size:=by rw[S5.1,S4.1,S3.1,S2.1,S1.1,S0.1]
  have Z5:H5.get? z=some (gP TI TO .ellipsis g1):=S5.extBut _ _ D.TOz.symm (S4.extBut _ _ D.i2z.symm (S3.extBut _ _ D.TOz.symm (S2.extBut _ _ D.i1z.symm Z1)))
  have K5:∀c o,c≠z->c≠TO->c≠i1->c≠i2->s.heap.get? c=some o->H5.get? c=some o:=λc o c1 c2 c3 c4 e=>
   S5.extBut _ _ c2 (S4.extBut _ _ c4 (S3.extBut _ _ c2 (S2.extBut _ _ c3 (S1.extBut _ _ c1 (S0.extBut _ _ c1 e)))))
  have A5:H5.IsTupleIter i1 l1 (k+1):=it (it (it OU S3 D.TOi1.symm) S4 D.i12) S5 D.TOi1.symm
  have B5:H5.IsTupleIter i2 l2 (k+1):=it L4 S5 D.TOi2.symm
  have zl:z < H5.objs.size:=kA Z5
  show wpAny _ _ (Builtin.SmallTypes.ownedTupleHandOut (.ref z) (.ref H5.objs.size) >>= _) _ _ _
  refine yB ?_
  unfold Builtin.SmallTypes.ownedTupleHandOut
  have Z6:(H5.push { cls:=.type "tuple",data:=.seq #[x,y] }).get? z=some (gP TI TO .ellipsis g1):=y8 _ Z5
  refine yB (zC9 Z6 (by simp) λH7 Z7 S7=>?_)
  replace Z7:H7.get? z=some (gP TI TO (rawInt H5.objs.size) g1):=Z7
  refine zC9 Z7 (by simp) λH8 Z8 S8=>?_
  replace Z8:H8.get? z=some (gP TI TO (rawInt H5.objs.size) (.bool false)):=Z8
  have up:∀c o,c≠z->H5.get? c=some o->H8.get? c=some o:=λc o c1 e=>S8.extBut _ _ c1 (S7.extBut _ _ c1 (y8 _ e))
  have T8:IsPair H8 H5.objs.size x y:=S8.extBut _ _ (zCr zl) (S7.extBut _ _ (zCr zl) (wE _ rfl))
  rw[hsz] at Z8 T8
  refine y6 ⟨_,rfl,?_⟩
  show Q (.ref H5.objs.size) _
  rw[hsz]
  exact hQ H8 _ _ _ _ (.inr ⟨_,rfl⟩) Z8 (up _ _ D.TOz O5) (A5.at λo e=>up _ o D.i1z e) (B5.at λo e=>up _ o D.i2z e) T8 λc o c1 c2 c3 c4 e=>up c o c1 (K5 c o c1 c2 c3 c4 e)
 | false=>
  simp only [zAi,zBa]
  refine yB ?_
  simp only [←zC5,zEf,forIn_nil]
  refine yB (yB (zBs ?_))
  show wpAny _ _ (nextOf (.ref i1) >>= _) _ _ _
  refine yB (mH (it h1 S0 D.i1z) (tp hl1 S0 D.l1z) hx λH2 OU S2=>y6 (y6 ?_))
  refine yB (yB (zBs ?_))
  show wpAny _ _ (nextOf (.ref i2) >>= _) _ _ _
  refine yB (mH (it (it h2 S0 D.i2z) S2 D.i12.symm) (tp (tp hl2 S0 D.l2z) S2 D.l2i1) hy λH4 L4 S4=>y6 (y6 (y6 ?_)))
  refine yB (wpAny_newTuple (y6 ⟨_,rfl,?_⟩) (by show 2<=sizeLine; decide))
  have hsz:H4.objs.size=s.heap.objs.size:=by rw[S4.1,S2.1,S0.1]
  have K4:∀c o,c≠z->c≠i1->c≠i2->s.heap.get? c=some o->H4.get? c=some o:=λc o c1 c3 c4 e=>S4.extBut _ _ c4 (S2.extBut _ _ c3 (S0.extBut _ _ c1 e))
  have up:∀{c o},H4.get? c=some o->(H4.push { cls:=.type "tuple",data:=.seq #[x,y] }).get? c=some o:=λe=>y8 _ e
  show Q (.ref H4.objs.size) _
  have T8:IsPair (H4.push { cls:=.type "tuple",data:=.seq #[x,y] }) H4.objs.size x y:=wE _ rfl
  rw[hsz] at T8 ⊢
  exact hQ _ f0 g1 a b hf (up (S4.extBut _ _ D.i2z.symm (S2.extBut _ _ D.i1z.symm Z0))) (up (K4 _ _ D.TOz D.TOi1 D.TOi2 hTO)) ((it OU S4 D.i12).at λo e=>up e) (L4.at λo e=>up e) T8 λc o c1 c2 c3 c4 e=>up (K4 c o c1 c3 c4 e)
theorem Jw {z TI TO i1 i2 l1 l2:Addr}{k:Nat}{xs:Array Value}{a b f0 f1:Value}{Q:Fin->Shared->Prop}(hh:A.handled=none)(D:ZipApart z TI TO i1 i2 l1 l2)
  (hz:s.heap.get? z=some (gP TI TO f0 f1)) (hf:Own f0) (hTI:IsPair s.heap TI (.ref i1) (.ref i2)) (hTO:IsPair s.heap TO a b)
  (h1:s.heap.IsTupleIter i1 l1 k) (hl1:s.heap.IsTuple l1 xs) (hx:xs[k]?=none)
  (hE:∀h' e,(∀c o,c≠z->c≠TO->c≠i1->c≠i2->s.heap.get? c=some o->h'.get? c=some o)->(∃o,h'.get? e=some o/\o.cls=.type "StopIteration")->E (.ref e) { s with heap:=h' }) :
  wpAny (model prog w) A (Builtin.«zip.__next__» ⟨[.ref z],[]⟩) Q E s:=by
 show wpAny _ _ (field (.ref z) 2 >>= _) _ _ _
 refine yB (zCf hz rfl (x:=.bool false) rfl ?_)
 show wpAny _ _ (field (.ref z) 3 >>= _) _ _ _
 refine yB (zCf hz rfl (x:=.ref TI) rfl (yB (zCk hTI rfl ?_)))
 show wpAny _ _ (ownedTupleIsFree (.ref z) >>= _) _ _ _
 refine yB (BP hz hf λb0 H0 g1 Z0 S0=>?_)
 have g0:=h1.extBut S0.extBut D.i1z
 have t0:=hl1.extBut S0.extBut D.l1z
 cases b0 with
 | true=>
  simp only [zCt]
  refine yB (zCo (yB (zCf Z0 rfl (x:=.ref TO) rfl (yB (zC9 Z0 (by simp) λH1 Z1 S1=>?_)))))
  replace Z1:H1.get? z=some (gP TI TO .ellipsis g1):=Z1
  refine yB ?_
  simp only [List.zipIdx_cons,List.zipIdx_nil,zEf,forIn_nil]
  refine yB (yB (wpAny_onRaise ?_))
  show wpAny _ _ (nextOf (.ref i1) >>= _) _ _ _
  refine yB (uI hh (g0.extBut S1.extBut D.i1z) (t0.extBut S1.extBut D.l1z) hx λH2 e S2 he=>?_)
  obtain⟨oe,OV,hce⟩:=he
  have Z2:H2.get? z=some (gP TI TO .ellipsis g1):=S2 _ _ D.i1z.symm Z1
  have Va:e≠z:=λq=>by subst q; rw[Z2] at OV; cases OV; simp at hce
  exact zC9 Z2 (by simp) λH3 _ S3=>hE H3 e (λc o c1 _ c3 _ q=>S3.extBut _ _ c1 (S2 _ _ c3 (S1.extBut _ _ c1 (S0.extBut _ _ c1 q)))) ⟨oe,S3.extBut _ _ Va OV,hce⟩
 | false=>
  simp only [zAi,zBa]
  refine yB ?_
  simp only [←zC5,zEf,forIn_nil]
  refine yB (yB (zBs ?_))
  show wpAny _ _ (nextOf (.ref i1) >>= _) _ _ _
  exact yB (uI hh g0 t0 hx λH2 e S2 he=>hE H2 e (λc o c1 _ c3 _ q=>S2 _ _ c3 (S0.extBut _ _ c1 q)) he)
theorem OW {tg:Expr}{z TI TO r:Addr}{f0 f1:Value}{Q:Unit->Shared->Prop}(hz:s.heap.get? z=some (gP TI TO f0 f1))(hf:Own f0)
  (hQ:∀h' g0,Own g0->h'.get? z=some (gP TI TO g0 f1)->Heap.SameBut z s.heap h'->Q () { s with heap:=h' }):wpAny (model prog w) A (letOwnedTupleGo tg (.ref z) (.ref r)) Q E s:=by
 have no:wpAny (model prog w) A (pure ()) Q E s:=y6 (hQ s.heap f0 hf hz ⟨rfl,λ_ _=>rfl⟩)
 unfold letOwnedTupleGo
 cases tg <;> first
  | exact no
  | (refine yB (wpAny_load hz ?_); show wpAny _ _ (if _ then _ else _) Q E s; split; (refine yB (zCo ?_); show wpAny _ _ (setField (.ref z) 0 .none) Q E s; exact zC9 hz (by simp) λh' hz' hs'=>hQ h' .none (.inl rfl) hz' hs'); exact no)
end
section
variable {X:Cx}{pins:zzC}{σ:St}{H H':Hp}{s:Shared}{h':Heap}
theorem Inv.fp {ch:List Addr}(I:Inv X pins σ H s)(hf:∀b∈ch,iX X pins H b)(kp:∀c o,c∉ch->s.heap.get? c=some o->h'.get? c=some o)(ext:∀b o,H b=some o->H' b=some o)(fr:∀b o,s.heap.get? b=some o->H b=none->H' b=none)
  (new:∀b o,H b=none->H' b=some o->bR X.prog X.w H' h' b o):Inv X pins σ H' { s with heap:=h' }:=by
 refine I.step (g':=s.gens) (d':=s.drawn) (t':=s.toks) (ch:=ch) (λc hc=>?_) (λc o _ _ hc e _=>kp c o hc e) (λc o _ _ hc e _=>⟨o.slots,kp c o hc e⟩) (λc o hc e n=>fr c o e n) (λc o hc e=>⟨o,kp c o hc e⟩)
  (λc us e=>ext _ _ e) (λc o us e=>ext _ _ e) (λc us e=>⟨#[],by rw[ext _ _ e]; simp⟩) (λm hm=>?_) (λc us e=>?_) I.bare
 ·obtain⟨f0,f1,f2,f3,f4,f5⟩:=hf c hc
  exact⟨f3,f1,f4,f5⟩
 ·obtain⟨o,es,ep,ho,r⟩:=hm
  exact⟨o,es,ep,kp _ o (λq=>(hf _ q).2.1 rfl) ho,r⟩
 ·cases q:H c with
  | none=>exact new c us q e
  | some o=>
   have:=ext _ _ q
   rw[e] at this
   cases this
   refine (I.hok c _ q).stay (λd w' hd z=>kp d w' (λq2=>?_) z) (λd z=>ext _ _ z) λd ws z=>ext _ _ z
   have z1:=(hf d q2).1
   rcases hd with y1 | y1
   ·rw[y1,q] at z1; cases z1
   ·rw[y1] at z1; cases z1
end
noncomputable def BQ (K:zzA)(a b:Addr):It:=
 ⟨λi H=>∃xs ys x y,aJ K H a xs/\aJ K H b ys/\xs[i]?=some x/\ys[i]?=some y,
  λi H v H'=>∃t,v=.ref t/\H t=none/\∃x y,H'=upd H t (.tup [x,y])/\(∀xs,aJ K H a xs->xs[i]?=some x)/\∀ys,aJ K H b ys->ys[i]?=some y,
  λi H=>∃xs,aJ K H a xs/\xs.length<=i⟩
section
variable {X:Cx}
theorem zy {h:Heap}{a b c d z TI TO i1 i2:Addr}{f0 f1:Value}{k1 k2:Nat}{xs ys:Array Value}(nd:[z,TI,TO,i1,i2].Nodup)(na:a≠TO)(nb:b≠TO)(hz:h.get? z=some (gP TI TO f0 f1))
  (h1:h.IsTupleIter i1 c k1) (h2:h.IsTupleIter i2 d k2) (pa:h.IsTuple a xs) (pb:h.IsTuple b ys):ZipApart z TI TO i1 i2 a b:=by
 obtain⟨o1,e1,c1,d1⟩:=h1
 obtain⟨o2,e2,c2,d2⟩:=h2
 simp only [zCd,wS,zCj,zBz,not_or,nodup_nil,and_true,not_false_eq_true] at nd
 obtain⟨⟨n1,n2,Vb,Vc⟩,⟨n5,n6,n7⟩,⟨n8,n9⟩,Vd⟩:=nd
 have A3:∀{c x:Addr} {o:Obj} {us:Array Value},h.IsTuple c us->h.get? x=some o->o.cls≠.type "tuple"->c≠x:=λ{c x o us} p e hc q=>by
  obtain⟨o3,e3,c3,_⟩:=p
  subst q; rw[e] at e3; cases e3; exact hc c3
 have cz:(gP TI TO f0 f1).cls≠.type "tuple":=by show Value.type "zip"≠.type "tuple"; decide
 have k1:o1.cls≠.type "tuple":=by rw[c1]; decide
 have k2:o2.cls≠.type "tuple":=by rw[c2]; decide
 exact⟨Ne.symm n1,Ne.symm n2,Ne.symm Vb,Ne.symm Vc,n5,n6,n7,n8,n9,Vd,A3 pa hz cz,na,A3 pa e1 k1,A3 pa e2 k2,A3 pb hz cz,nb,A3 pb e1 k1,A3 pb e2 k2⟩
theorem G5 {P:Program}{w:World}{K:zzA}{tg:Expr}(a b z TI TO i1 i2:Addr)(nd:[z,TI,TO,i1,i2].Nodup)(na:a≠TO)(nb:b≠TO) :
  Turn P w K tg (BQ K a b) [z,TI,TO,i1,i2] z (λi h=>(∃f0 f1,Own f0/\h.get? z=some (gP TI TO f0 f1))/\IsPair h TI (.ref i1) (.ref i2)/\(∃u v,IsPair h TO u v)/\h.IsTupleIter i1 a i/\h.IsTupleIter i2 b i) where
 mem:=by simp
 obj:=λi h st c hc=>by
  obtain⟨⟨f0,f1,_,hz⟩,hT,⟨u,v,hO⟩,⟨o1,e1,c1,d1⟩,⟨o2,e2,c2,d2⟩⟩:=st
  simp only [wS,zCj,zBz] at hc
  rcases hc with rfl | rfl | rfl | rfl | rfl
  ·exact⟨_,hz,λv z=>nomatch z⟩
  ·exact⟨_,hT,λv z=>nomatch z⟩
  ·exact⟨_,hO,λv z=>nomatch z⟩
  ·exact⟨_,e1,λv z=>by rw[d1] at z; cases z⟩
  ·exact⟨_,e2,λv z=>by rw[d2] at z; cases z⟩
 keep:=λi h h' st kk=>by
  obtain⟨⟨f0,f1,hf,hz⟩,hT,⟨u,v,hO⟩,h1,h2⟩:=st
  exact⟨⟨f0,f1,hf,kk z (by simp) _ hz⟩,kk TI (by simp) _ hT,⟨u,v,kk TO (by simp) _ hO⟩,h1.at λo e=>kk i1 (by simp) o e,h2.at λo e=>kk i2 (by simp) o e⟩
 item:=by
  intro X hP hw hK hc i pins s σ H E I hf st hg
  subst hP hw hK
  obtain⟨xs,ys,x,y,KS,RQ,hx,hy⟩:=hg
  obtain⟨⟨f0,f1,hof,hz⟩,hT,⟨u0,v0,hO⟩,h1,h2⟩:=id st
  obtain⟨its,rv,p,_⟩:=I.tuple KS
  obtain⟨RS,rw',q,_⟩:=I.tuple RQ
  obtain⟨u,hu,ru⟩:=rv.get hx
  obtain⟨v,hv,Ve⟩:=rw'.get hy
  have D:ZipApart z TI TO i1 i2 a b:=zy nd na nb hz h1 h2 p q
  have hTT:s.TypeIs (.ref z) "zip":=⟨_,hz,rfl⟩
  unfold pyNext
  refine yB (zEc (zBo (name:=ofString "__next__") hTT F.slot_zip_next (zBe F.slot_zip_next hTT F.entry_zip_next
   (G4 D hz hof hT hO h1 h2 p q (x:=u) (y:=v) (by simpa using hu) (by simpa using hv) λh' g0 g1 a' b' ho z1 a2 a3 a4 a5 kk=>y6 ?_) (F.args_zip_next_1 _))))
  refine⟨_,rfl,OW z1 ho λh'' X4 Vf z2 sb=>?_⟩
  have lt:∀c o,s.heap.get? c=some o->c≠s.heap.objs.size:=λc o e=>zAn (kA e)
  have nT:∀c∈[z,TI,TO,i1,i2],c≠s.heap.objs.size:=λc hc=>by
   obtain⟨o1,e1,_⟩:=h1
   obtain⟨o2,e2,_⟩:=h2
   simp only [wS,zCj,zBz] at hc
   rcases hc with rfl | rfl | rfl | rfl | rfl
   ·exact lt _ _ hz
   ·exact lt _ _ hT
   ·exact lt _ _ hO
   ·exact lt _ _ e1
   ·exact lt _ _ e2
  have fr:H s.heap.objs.size=none:=I.fresh
  have kp:∀c o,c∉[z,TO,i1,i2]->s.heap.get? c=some o->h''.get? c=some o:=λc o hc e=>by
   simp only [wS,zCj,zBz,not_or] at hc
   exact (sb.2 c hc.1).trans (kk c o hc.1 hc.2.1 hc.2.2.1 hc.2.2.2 e)
  have I1:Inv X pins σ (upd H s.heap.objs.size (.tup [x,y])) { s with heap:=h'' }:=by
   refine I.fp (ch:=[z,TO,i1,i2]) (λb hb=>hf b (by simp only [wS,zCj,zBz] at hb ⊢; rcases hb with q | q | q | q <;> simp [q])) kp (ai.new fr _) (λc o e n=>by rw[aT (lt c o e)]; exact n) λc o n e=>?_
   by_cases GH:c=s.heap.objs.size
   ·subst GH
    rw[aA] at e
    cases e
    have e5:h''.get? s.heap.objs.size=some { cls:=.type "tuple",data:=.seq #[u,v] }:=(sb.2 _ (Ne.symm (nT z (by simp)))).trans a5
    exact⟨(by show 2<=sizeLine; decide),[u,v],.cons ru (.cons Ve .nil),_,e5,rfl,_,rfl⟩
   ·rw[aT GH,n] at e
    cases e
  refine⟨.ref s.heap.objs.size,_,I1,rfl,⟨_,rfl,fr,x,y,rfl,λzs hz'=>by rw[I.nR hz' KS]; exact hx,λzs hz'=>by rw[I.nR hz' RQ]; exact hy⟩,?_,λc hc=>?_⟩
  ·refine⟨⟨_,_,Vf,z2⟩,?_,⟨a',b',?_⟩,?_,?_⟩
   ·exact kp TI _ (by simp only [zCd,wS,zCj,zBz,not_or] at nd ⊢; exact⟨λq=>nd.1.1 q.symm,nd.2.1⟩) hT
   ·exact (sb.2 _ D.TOz).trans a2
   ·exact a3.extBut sb.extBut D.i1z
   ·exact a4.extBut sb.extBut D.i2z
  ·rw[aT (nT c hc)]; exact (hf c hc).1
 done:=by
  intro X hP hw hK hc i pins s σ H E I hf st hg
  subst hP hw hK
  obtain⟨xs,KS,hend⟩:=hg
  obtain⟨⟨f0,f1,hof,hz⟩,hT,⟨u0,v0,hO⟩,h1,h2⟩:=id st
  obtain⟨its,rv,p,_⟩:=I.tuple KS
  have l1:=rv.length
  have hTT:s.TypeIs (.ref z) "zip":=⟨_,hz,rfl⟩
  have D:ZipApart z TI TO i1 i2 a a:=zy nd na na hz h1 h2 p p
  unfold pyNext
  refine yB (zEc (zBo (name:=ofString "__next__") hTT F.slot_zip_next (zBe F.slot_zip_next hTT F.entry_zip_next
   (Jw (I.ok.hd hc) D hz hof hT hO h1 p (by simp; omega) λh' e kk he=>?_) (F.args_zip_next_1 _))))
  obtain⟨o,ho,hc'⟩:=he
  refine yB (zD5 (T:="StopIteration") (b:=true) ⟨o,ho,hc'⟩ isSubtype_stop (y6 ⟨rfl,?_⟩))
  refine I.fp (ch:=[z,TO,i1,i2]) (λb hb=>hf b (by simp only [wS,zCj,zBz] at hb ⊢; rcases hb with q | q | q | q <;> simp [q])) (λc o hc e=>?_) (λ_ _ e=>e) (λ_ _ _ n=>n) λc o n e=>by rw[n] at e; cases e
  simp only [wS,zCj,zBz,not_or] at hc
  exact kk c o hc.1 hc.2.1 hc.2.2.1 hc.2.2.2 e
 self:=λ_ _ _ _ _ st h=>by
  obtain⟨⟨f0,f1,_,hz⟩,_⟩:=st
  refine wpAny_pyIter_slot (⟨_,hz,rfl⟩:Shared.TypeIs _ (.ref z) "zip") F.slot_zip_iter (zBe F.slot_zip_iter ⟨_,hz,rfl⟩ F.entry_zip_iter ?_ (F.args_zip_iter_1 _))
  show wpAny _ _ (ret (.ref z)) _ _ _
  exact y6 ⟨_,rfl,"zip",_,⟨_,hz,rfl⟩,F.slot_zip_next.lookup,h⟩
abbrev lU (h:Heap) (l:Addr):Heap:=h.push { cls:=.type "tuple_iterator",data:=.fields #[.ref l,.int 0 0] }
abbrev G6 (h:Heap) (l m:Addr):Heap:=(lU (lU h l) m).push { cls:=.type "tuple",data:=.seq #[.ref h.objs.size,.ref (lU h l).objs.size] }
abbrev KU (h:Heap) (l m:Addr):Heap:=(G6 h l m).push { cls:=.type "tuple",data:=.seq #[.none,.none] }
abbrev BR (h:Heap) (l m:Addr):Heap:=(KU h l m).push { cls:=.type "zip",data:=.fields #[.none,.bool false,.bool false,.ref (lU (lU h l) m).objs.size,.ref (G6 h l m).objs.size] }
set_option maxHeartbeats 4000000 in
theorem E8 (l m:Addr)(xs ys:Array Value) :
  Meets (Builtin.«zip.__new__» ⟨[.type "zip",.ref l,.ref m],[]⟩) (λ_ R s=>s.heap.IsTuple l xs/\(lU s.heap l).IsTuple m ys/\
   R (.ok (.ret (.ref (KU s.heap l m).objs.size))) { s with heap:=BR s.heap l m }):=
 .of_wp λprog w A R s h=>by
  obtain⟨hp,g,d,tk,os⟩:=s; obtain⟨hl1,hl2,h⟩:=h
  have hsub:=sub_zip
  have Ot:Heap.IsTuple (Shared.heap ⟨hp,g,d,tk,os⟩) l xs:=hl1
  have J3:Heap.IsTuple (Shared.heap ⟨lU hp l,g,d,tk,os⟩) m ys:=hl2
  wp_walk using wpAny_pyIter_tuple Ot,wpAny_pyIter_tuple J3
  exact⟨_,rfl,h⟩
noncomputable def E9 (K:zzA)(ta:TA):TI:=fun σ H R=>ta σ H λvs H1=>∃a b,vs=[.ref a,.ref b]/\(∃xs,aJ K H1 a xs)/\(∃ys,aJ K H1 b ys)/\R (BQ K a b) H1
theorem Mt {tg a b:Expr}{ta:TA}{p pos:Pos}(hg:Gl X "zip")(hm:X.mg "zip"=none)(ha:PA X [a,b] ta)(hs:starEach [a,b] X.env=[(false,eval a X.env),(false,eval b X.env)]:=by rfl)(hs2:starEach [b] X.env=[(false,eval b X.env)]:=by rfl) :
  PI X tg (.Call (.Name "zip" p) [a,b] [] pos) (E9 X.K ta):=by
 intro pins s σ H R I h
 refine Call_ (o6 I hg hm boot_zip (zCz (aZ (ha pos pins s σ H _ I h) λus s1 ⟨vs,H1,I1,r1,q1⟩=>?_) (by rw[hs,hs2]) (by rw[hs2]; rfl)))
 obtain⟨x,y,e,⟨xs,hx⟩,⟨ys,hy⟩,q⟩:=q1
 subst e
 obtain⟨u,v,rfl,ru,rv⟩:=vals2 r1
 cases ru
 cases rv
 obtain⟨its,_,px,_⟩:=I1.tuple hx
 obtain⟨RS,_,py,_⟩:=I1.tuple hy
 refine callType_new F.called_zip (by decide) (F.typeCall_zip_2 _ _) (F.newCall_zip_2 _ _) (λobj=>F.args_object_init_3 obj _ _) F.entry_zip_new
  (E8 x y its.toArray RS.toArray) ⟨px,py.push _,?_⟩
 have lx:x < s1.heap.objs.size:=let ⟨_,e,_⟩:=px; kA e
 have ly:y < s1.heap.objs.size:=let ⟨_,e,_⟩:=py; kA e
 have z1:(lU s1.heap x).objs.size=s1.heap.objs.size+1:=zC6 ..
 have z2:(lU (lU s1.heap x) y).objs.size=s1.heap.objs.size+2:=by rw[zC6,z1]
 have z3:(G6 s1.heap x y).objs.size=s1.heap.objs.size+3:=by rw[zC6,z2]
 have z4:(KU s1.heap x y).objs.size=s1.heap.objs.size+4:=by rw[zC6,z3]
 have g5:(BR s1.heap x y).get? (KU s1.heap x y).objs.size=some (gP (lU (lU s1.heap x) y).objs.size (G6 s1.heap x y).objs.size .none (.bool false)):=wE _ rfl
 have g4:IsPair (BR s1.heap x y) (G6 s1.heap x y).objs.size .none .none:=y8 _ (wE _ rfl)
 have g3:IsPair (BR s1.heap x y) (lU (lU s1.heap x) y).objs.size (.ref s1.heap.objs.size) (.ref (lU s1.heap x).objs.size):=y8 _ (y8 _ (wE _ rfl))
 have g2:(BR s1.heap x y).IsTupleIter (lU s1.heap x).objs.size y 0:=⟨_,y8 _ (y8 _ (y8 _ (wE _ rfl))),rfl,rfl⟩
 have g1:(BR s1.heap x y).IsTupleIter s1.heap.objs.size x 0:=⟨_,y8 _ (y8 _ (y8 _ (y8 _ (wE _ rfl)))),rfl,rfl⟩
 have kk:∀c o,s1.heap.get? c=some o->(BR s1.heap x y).get? c=some o:=λc o e=>y8 _ (y8 _ (y8 _ (y8 _ (y8 _ e))))
 refine⟨⟨_,g5,rfl⟩,?_⟩
 rw[z4,z3,z2] at g5
 rw[z3] at g4
 rw[z2,z1] at g3
 rw[z1] at g2
 rw[z4]
 have T:Turn X.prog X.w X.K tg (BQ X.K x y) _ _ _:=G5 x y (s1.heap.objs.size+4) (s1.heap.objs.size+2) (s1.heap.objs.size+3) s1.heap.objs.size (s1.heap.objs.size+1) (by
  generalize s1.heap.objs.size=n
  simp only [zCd,wS,zCj,zBz,not_or,nodup_nil,and_true,not_false_eq_true]
  refine⟨⟨?_,?_,?_,?_⟩,⟨?_,?_,?_⟩,⟨?_,?_⟩,?_⟩ <;> (intro h; have h':(_:Nat)=_:=h; omega)) (zAn (Nat.lt_add_right 3 lx)) (zAn (Nat.lt_add_right 3 ly))
 refine T.self _ 0 _ _ _ ⟨⟨_,_,.inl rfl,g5⟩,g3,⟨_,_,g4⟩,g1,g2⟩ ?_
 refine⟨_,_,_,_,H1,rfl,I1.kept (t':=s1.toks) kk,T,⟨⟨_,_,.inl rfl,g5⟩,g3,⟨_,_,g4⟩,g1,g2⟩,λb hb=>?_,q⟩
 simp only [wS,zCj,zBz] at hb
 have hl:s1.heap.objs.size<=b:=by
  rcases hb with h | h | h | h | h <;> rw[h] <;> first | exact Nat.le_add_right _ _ | exact x3 _
 exact I1.uW hl (I1.hok.fresh hl)
end
section
variable {X:Cx}{K:zzA}
theorem G7 {tg a b:Expr}{t:TA}{p pos:Pos}(hm:X.mg "zip"=none)(ha:PA X [a,b] t)(h:X.K=K:=by rfl)(hg:Gl X "zip":=by rfl)(hs:starEach [a,b] X.env=[(false,eval a X.env),(false,eval b X.env)]:=by rfl)(hs2:starEach [b] X.env=[(false,eval b X.env)]:=by rfl) :
  PI X tg (.Call (.Name "zip" p) [a,b] [] pos) (E9 K t):=h ▸ Mt hg hm ha hs hs2
variable {ix:List (Option Nat)}{te:TE}{tt:TA}{g:TG}{σ:St}{H H1:Hp}{Q:Addr->Hp->Prop}{R:VK}
theorem DM {a b:Addr}{xs ys:List V}(h:Ga tt σ H [.ref a,.ref b])(ha:aJ K H a xs)(hb:aJ K H b ys)(k:∀H',ai H H'->aJ K H' a xs->aJ K H' b ys->dP (BQ K a b) ix g tf te σ H' λD' H2=>R (.ref D') H2):jR (E9 K tt) ix g tf te σ H R:=
 h _ λH' s=>⟨a,b,rfl,⟨xs,s.tup ha⟩,⟨ys,s.tup hb⟩,k H' s (s.tup ha) (s.tup hb)⟩
theorem zz {a b:Addr}{xs ys:List V}(f:Nat->V)(ha:aJ K H1 a xs)(hb:aJ K H1 b ys)(hl:xs.length=ys.length)(hz:xs.length<=sizeLine)
  (hs:∀(i:Nat) (x y:V) (t:Addr) (H:Hp) (R:VK),xs[i]?=some x->ys[i]?=some y->ai H1 H->aJ K H t [x,y]->(∀H6,ai H H6->R (f i) H6)->g (.ref t) (cN ix σ) H fun σ4 H4=>te σ4 H4 R)
  (hd:∀D H,H1 D=none->ai H1 H->H D=some (.lst ((range xs.length).map f))->Q D H):dP (BQ K a b) ix g kq te σ H1 Q:=by
 intro D hD
 refine⟨λi m zs H=>m=xs.length - i/\i<=xs.length/\ai H1 H/\zs=(range i).map f,⟨xs.length,by simp,zAw _,ai.new hD _,by simp⟩,?_⟩
 rintro i m zs H ⟨rfl,hi,sm,p⟩ aV
 by_cases hlt:i < xs.length
 ·have hx:xs[i]?=some xs[i]:=xI hlt
  have hy:ys[i]?=some ys[i]:=xI (by omega)
  refine .inr ⟨⟨xs,ys,xs[i],ys[i],sm.tup ha,sm.tup hb,hx,hy⟩,λv H3 y=>?_⟩
  obtain⟨t,rfl,ht,x',y',rfl,ex,ey⟩:=y
  have ex':=ex xs (sm.tup ha)
  have RT:=ey ys (sm.tup hb)
  rw[hx] at ex'; rw[hy] at RT
  cases ex'; cases RT
  have sT:ai H (upd H t (.tup [xs[i],ys[i]])):=ai.new ht _
  refine hs i _ _ t _ _ hx hy (sm.trans sT) (aJ.of aA) λH6 r1=>?_
  refine⟨r1 _ _ (sT _ _ aV),?_,xs.length - (i+1),by omega,rfl,hlt,((sm.trans sT).trans r1).put hD _,?_⟩
  ·rw[p,y3,zBd]; omega
  ·rw[p,zBp,v4]; rfl
 ·have e:i=xs.length:=by omega
  subst e
  refine .inl ⟨⟨xs,sm.tup ha,x3 _⟩,hd D H hD sm ?_⟩
  rw[aV,p]
end
noncomputable def x9 (P:Program)(w:World)(h:Heap)(S:Addr)(ds:List (Dt × Addr × Value))(ep:Nat):Prop:=(S == sysModules)=false/\∃o es,h.get? S=some o/\o.ExactDict/\o.data=.dict es ep/\es.toList=ds.map (entryOfKey (mw P w))/\(ds.map (·.1)).Nodup
noncomputable def jy (P:Program)(w:World)(S:Addr)(ds:List (Dt × Addr × Value))(ep:Nat):HO:=.ext λh=>x9 P w h S ds ep
theorem vo {P:Program}{w:World}{H:Hp}{h:Heap}{S:Addr}{ds:List (Dt × Addr × Value)}{ep:Nat}(x:x9 P w h S ds ep):bR P w H h S (jy P w S ds ep):=by
 obtain⟨x0,o,es,ho,r⟩:=id x
 refine⟨x,⟨o,ho⟩,λh1 h2 y k=>?_⟩
 obtain⟨y0,o1,es1,A6,r1⟩:=y
 exact⟨y0,o1,es1,k _ A6,r1⟩
noncomputable def c_ (K:zzA)(P:Program)(w:World)(H:Hp)(a:Addr)(ks:List (Dt × V)):Prop:=
 ∃(ds:List (Dt × Addr × Value)) (ep:Nat),H a=some (jy P w a ds ep)/\ds.map (·.1)=ks.map (·.1)/\(∀x∈ds,NK K H x.1 x.2.1)/\Vals (ks.map (·.2)) (ds.map (·.2.2))
noncomputable def qm (ks:List (Dt × V)) (k:Dt):Option V:=(ks.find? λx=>decide (x.1=k)).map (·.2)
theorem BS:∀{ks:List (Dt × V)} {ds:List (Dt × Addr × Value)},ds.map (·.1)=ks.map (·.1)->Vals (ks.map (·.2)) (ds.map (·.2.2))->∀k,mZ (qm ks k) ((atKey ds k).map (·.2))
 | [],[],_,_,_=>True.intro
 | [],_::_,e,_,_=>by cases e
 | _::_,[],e,_,_=>by cases e
 | x::ks,y::ds,e,.cons r t,k=>by
  injection e with e1 e2
  have e1:y.1=x.1:=e1
  unfold qm atKey
  rw[find?_cons,find?_cons,e1]
  by_cases c:x.1=k
  ·rw[zAm c]; exact r
  ·rw[zAv c]; exact BS e2 t k
section
variable {K:zzA}{P:Program}{w:World}{H H':Hp}{a:Addr}{ks:List (Dt × V)}
theorem c_.len {ds:List (Dt × Addr × Value)}(e:ds.map (·.1)=ks.map (·.1)):ds.length=ks.length:=by have:=zA3 length e; simpa using this
theorem c_.mut (h:c_ K P w H a ks):uq (H a):=by
 obtain⟨ds,ep,e,_⟩:=h
 rw[e]
 exact True.intro
theorem c_.keep (h:c_ K P w H a ks)(e:H' a=H a)(k:∀q xs,aJ K H q xs->aJ K H' q xs):c_ K P w H' a ks:=by
 obtain⟨ds,ep,e1,e2,e3,e4⟩:=h
 exact⟨ds,ep,by rw[e]; exact e1,e2,λx hx=>(e3 x hx).tups k,e4⟩
theorem c_.same (h:c_ K P w H a ks)(s:ai H H'):c_ K P w H' a ks:=by
 refine h.keep ?_ λq xs h=>s.tup h
 obtain⟨ds,ep,e1,_⟩:=h
 rw[e1]
 exact s _ _ e1
end
theorem G8 {xs:List V}{us:List Value}(h:Vals xs us){v:V}{u:Value}(r:RelV v u):Vals (xs++[v]) (us++[u]):=by
 induction h with
 | nil=>exact .cons r .nil
 | cons r' _ ih=>exact .cons r' ih
section
variable {X:Cx}{pins:zzC}{σ:St}{H:Hp}{s:Shared}{a:Addr}{y v:V}{u r:Value}{A:Around}{E:zzE}
theorem tW (I:Inv X pins σ H s){ks:List (Dt × V)}(h:c_ X.K X.prog X.w H a ks):(a == sysModules)=false/\∃ds o es ep,s.heap.get? a=some o/\o.ExactDict/\o.data=.dict es ep/\es.toList=ds.map (entryOfKey (mw X.prog X.w))/\(ds.map (·.1)).Nodup/\(∀x∈ds,(mw X.prog X.w).is s.heap x.1 x.2.1)/\ds.map (·.1)=ks.map (·.1)/\(∀x∈ds,NK X.K H x.1 x.2.1)/\Vals (ks.map (·.2)) (ds.map (·.2.2))/\H a=some (jy X.prog X.w a ds ep):=by
 obtain⟨ds,ep,e,hl,hk,hm⟩:=h
 obtain⟨⟨x0,o,es,ho,e1,e2,e3,e4⟩,_⟩:=(show bR X.prog X.w H s.heap a (jy X.prog X.w a ds ep) from I.hok a _ e)
 exact⟨x0,ds,o,es,ep,ho,e1,e2,e3,e4,λx hx=>(hk x hx).key I,hl,hk,hm,e⟩
noncomputable def OX (K:zzA)(P:Program)(w:World)(H:Hp)(a:Addr)(y v:V)(Q:Hp->Prop):Prop:=∃ks d b,c_ K P w H a ks/\ks.length < sizeLine/\y=.ref b/\NK K H d b/\(∀x∈ks,x.1≠d)/\
 ∀o,c_ K P w (upd H a o) a (ks++[(d,v)])->uq (H a)->Q (upd H a o)
theorem Jx {R:Hp->Prop}{Q:Unit->Shared->Prop}(hu:A.units+9 < cLine)(I:Inv X pins σ H s)(g:OX X.K X.prog X.w H a y v R)(ry:RelV y u)(rv:RelV v r)(h:∀H' s',Inv X pins σ H' s'->R H'->Q () s') :
  wpAny (model X.prog X.w) A (setItem (.ref a) u r) Q E s:=by
 obtain⟨ks,d,b,hm,hn,rfl,hk,hd,k⟩:=g
 cases (show u=Value.ref b from ry)
 have mu:=hm.mut
 obtain⟨x0,ds,o,es,ep,ho,e1,e2,e3,e4,e5,e6,e7,e8,e9⟩:=tW I hm
 have hl:=c_.len e6
 have no:atKey ds d=none:=by
  unfold atKey
  rw[List.find?_eq_none.mpr λx hx=>?_]
  ·rfl
  ·have:x.1∈ks.map (·.1):=e6 ▸ zA5 hx
   obtain⟨z,hz,ez⟩:=x5.mp this
   have:=hd z hz
   rw[ez] at this
   simpa using this
 refine wpAny_setItem_heap (hsz:=by omega) (Al hu) (hk.key I) ⟨o,es,ep,ho,e1,e2,e3,e5,e4⟩ λh' Ky hs=>?_
 rw[storedH_new no] at Ky
 obtain⟨q,es',qv,hq,h2,h3,h4,_,h5⟩:=Ky
 have raw:x9 X.prog X.w h' a (ds++[(d,b,r)]) qv:=⟨x0,q,es',hq,h2,h3,h4,h5⟩
 refine h _ _ (Dw I mu hs ⟨q,hq⟩ (vo raw)) (k _ ⟨ds++[(d,b,r)],qv,aA,by simp [e6],λx hx=>?_,?_⟩ mu)
 ·rcases wT.mp hx with z | z
  ·exact (e7 x z).tups λq xs hq=>mS mu hq
  ·rw[w8.mp z]
   exact hk.tups λq xs hq=>mS mu hq
 ·rw[v4,v4]
  exact G8 e8 rv
end
noncomputable def Tv (K:zzA)(P:Program)(w:World)(H:Hp)(a:Addr)(y v:V):Prop:=∃ks d b,c_ K P w H a ks/\y=.ref b/\NK K H d b/\qm ks d=some v
noncomputable def Q3 (K:zzA)(P:Program)(w:World)(td ty:TE):TE:=fun σ H Q=>td σ H λx H1=>ty σ H1 λy H2=>∃a v,x=.ref a/\Tv K P w H2 a y v/\Q v H2
noncomputable def Q4 (K:zzA)(P:Program)(w:World):TE:=λ_ H Q=>∀p o,H p=none->c_ K P w (upd H p o) p []->Q (.ref p) (upd H p o)
noncomputable def Q5 (K:zzA)(P:Program)(w:World)(td ty tv:TE):TS:=λD σ H=>tv σ H λv H1=>td σ H1 λx H2=>ty σ H2 λy H3=>∃a,x=.ref a/\OX K P w H3 a y v λH4=>D.nx σ H4
section
variable {X:Cx}{o i e value:Expr}{pos pos' tpos:Pos}{td ty tv:TE}(K:zzA)(P:Program)(w:World)
theorem KW (hu:X.A.units+9 < cLine)(ho:PE X o td)(hi:PE X i ty)(hv:PE X value tv)(hs:swapsWith value (some (.Subscript o i pos')) pos.line X.env=pure false)(hK:X.K=K:=by rfl)(hP:X.prog=P:=by rfl)(hw:X.w=w:=by rfl) :
  PS X (.Assign [.Subscript o i pos'] value pos) (Q5 K P w td ty tv):=by
 subst hK; subst hP; subst hw
 intro pins s σ H D I h
 refine wpAny_Assign_Subscript (aZ (hv pins s σ H _ I h) λr s1 ⟨v,H1,I1,rv,q1⟩=>aZ (ho pins s1 σ H1 _ I1 q1) λu s2 ⟨x,H2,I2,rx,q2⟩=>aZ (hi pins s2 σ H2 _ I2 q2) λiv s3 ⟨y,H3,I3,ry,a,ex,g⟩=>?_) hs
 subst ex
 obtain rfl:u=Value.ref a:=rx
 exact Jx hu I3 g ry rv λH4 s4 I4 q3=>⟨σ,H4,I4,q3⟩
theorem Q6 (hu:X.A.units+9 < cLine)(ho:PE X o td)(hi:PE X i ty)(hs:Ox i)(hK:X.K=K:=by rfl)(hP:X.prog=P:=by rfl)(hw:X.w=w:=by rfl):PE X (.Subscript o i pos) (Q3 K P w td ty):=by
 subst hK; subst hP; subst hw
 intro pins s σ H Q I h
 refine Mc PySem.F.slot_dict_getitem.lookup hs (aZ (ho pins s σ H _ I h) λu s1 ⟨x,H1,I1,rx,q1⟩=>aZ (hi pins s1 σ H1 _ I1 q1) λiv s2 ⟨y,H2,I2,ry,a,v,ex,g,q2⟩=>?_)
 subst ex
 obtain rfl:u=Value.ref a:=rx
 obtain⟨ks,d,b,hm,rfl,hk,e⟩:=g
 cases (show iv=Value.ref b from ry)
 obtain⟨x0,ds,o,es,ep,ho,e1,e2,e3,e4,e5,e6,e7,e8,e9⟩:=tW I2 hm
 have:=BS e6 e8 d
 rw[e] at this
 obtain⟨w',hw,rw'⟩:=mZ.some_of this
 obtain⟨p,hp,hp2⟩:=zBf.mp hw
 refine⟨⟨o,ho,e1.1⟩,wpAny_getItem_heap (Al hu) (hk.key I2) ⟨o,es,ep,ho,e1,e2,e3,e5,e4⟩ hp ?_⟩
 rw[hp2]
 exact⟨v,H2,I2.tok _,rw',q2⟩
theorem Q7 (hK:X.K=K:=by rfl)(hP:X.prog=P:=by rfl)(hw:X.w=w:=by rfl):PE X (.Dict [] [] pos) (Q4 K P w):=by
 subst hK; subst hP; subst hw
 intro pins s σ H Q I h
 have raw:x9 X.prog X.w (s.heap.push { cls:=.type "dict",data:=.dict #[] }) s.heap.objs.size [] 0:=⟨zD9.mpr (Ne.symm (zAn I.big)),_,#[],wE _ rfl,⟨rfl,rfl,rfl⟩,rfl,rfl,nodup_nil⟩
 exact wpAny_Dict_empty ⟨.ref s.heap.objs.size,_,I.laid (a:=s.heap.objs.size) (o:=jy X.prog X.w s.heap.objs.size [] 0) (t':=s.toks) (λ_ _ q=>y8 _ q) (x3 _) (vo raw),rfl,h _ _ (I.hok.fresh (x3 _)) ⟨[],0,aA,rfl,λx hx=>absurd hx (by simp),.nil⟩⟩
noncomputable def KY (K:zzA)(P:Program)(w:World):List V->Hp->VK->Prop:=λxs H Q=>∃a ks,xs=[.ref a]/\c_ K P w H a ks/\ks.length<=sizeLine/\Q (.int ks.length) H
theorem Q8 (hK:X.K=K:=by rfl)(hP:X.prog=P:=by rfl)(hw:X.w=w:=by rfl):dg X (.builtin "len") (KY K P w):=by
 subst hK; subst hP; subst hw
 intro pins s σ H xs us Q I r h
 obtain⟨a,ks,rfl,ha,hz,q⟩:=h
 obtain⟨u,rfl,ru⟩:=vals1 r
 cases ru
 obtain⟨x0,ds,o,es,ep,ho,e1,e2,e3,e4,e5,e6,e7,e8,e9⟩:=tW I ha
 have hT:s.TypeIs (.ref a) "dict":=⟨o,ho,e1.1⟩
 have hl:es.size=ks.length:=by rw[←c_.len e6,←u8,e3,y3]
 rw[zAk] at hz
 refine Calls.call_function_entry kind_len plain_len entry_len (args_len1 _) ?_
 unfold Builtin.«len»
 refine yB (m:=oneArg "len" _) (y6 ?_)
 refine yB (m:=callSpecial? (.ref a) (ofString "__len__")) (zBo (name:=ofString "__len__") hT F.slot_dict_len (zBe F.slot_dict_len hT F.entry_dict_len ?_ (F.args_dict_len_1 _)))
 show wpAny _ _ (dictSize a >>= _) _ _ s
 unfold dictSize
 refine yB (yB (zCl ho e2 (y6 ?_)))
 show wpAny _ _ (Builtin.Dict.pendingCount a >>= _) _ _ s
 refine yB (wpAny_pendingCount_other x0 ?_)
 refine yB (wpAny_mkInt (y6 ⟨_,rfl,?_⟩))
 refine yB (zBs (y6 ?_))
 refine yB (wpAny_letGo ?_)
 rw[zD2,hl]
 show wpAny _ _ (if ((ks.length:Nat):Int) < 0 then _ else _) _ _ _
 rw[xL (by omega)]
 show wpAny _ _ (if ((ks.length:Nat):Int) >= 2 ^ 63 then _ else _) _ _ _
 rw[xL (by omega)]
 exact yB (wpAny_mkInt (y6 ⟨_,rfl,.int ks.length,H,I.tok _,⟨_,rfl⟩,q⟩))
end
section
variable {prog:Program}{w:World}{A:Around}{E:zzE}{s:Shared}
theorem E_ {id:String}{d:Addr}{o:Obj}{es:Array DictEntry}{ep:Nat}{Q:Array DictEntry->Shared->Prop}(ho:s.heap.get? d=some o)(hd:o.data=.dict es ep)(ht:∀e∈es.toList,∃a,e.key=.ref a/\∃o',s.heap.get? a=some o'/\o'.cls=.type "tuple")(nd:(es.toList.map (·.hash)).Nodup)(h:Q es s) :
  wpAny (model prog w) A (Builtin.Dict.entriesForEmpty id d) Q E s:=by
 unfold Builtin.Dict.entriesForEmpty
 refine yB (zCl ho hd ?_)
 refine yB ?_
 rw[←zC5]
 refine zD4 _ (λrest _ s'=>s'=s/\∀e∈rest,e∈es.toList) _ ?_ ?_ _ _ ⟨rfl,λe he=>he⟩
 ·rintro e rest b s' ⟨rfl,hin⟩
  have he:=hin e zAs
  have one:¬ (es.filter (·.hash == e.hash)).size > 1:=by
   rw[←u8,Array.toList_filter]
   have:∀l:List DictEntry,(l.map (·.hash)).Nodup->(l.filter (·.hash == e.hash)).length<=1:=by
    intro l
    induction l with
    | nil=>intro _; exact zAw _
    | cons x l ih=>
     intro h
     rw[zAo,zCd] at h
     rw[zDo]
     split
     ·rename_i q
      have:l.filter (·.hash == e.hash)=[]:=by
       rw[List.filter_eq_nil_iff]
       intro z hz q2
       exact h.1 (x5.mpr ⟨z,hz,by rw[eq_of_beq q2,eq_of_beq q]⟩)
      rw[this]
      exact x3 _
     ·exact ih h.2
   have:=this es.toList nd
   omega
  obtain⟨a,ea,hT⟩:=ht e he
  rw[ea]
  show wpAny _ _ ((do return (←specialOf (.ref a) "__eq__") == some (.builtin "object.__eq__")) >>= _) _ _ _
  refine yB (yB (zEd (show Shared.TypeIs s' (.ref a) "tuple" from hT) F.slot_tuple_eq.lookup (y6 ?_)))
  split
  ·try rw[xL one]
   exact y6 ⟨rfl,λz hz=>hin z (zAr _ hz)⟩
  ·exact y6 ⟨rfl,λz hz=>hin z (zAr _ hz)⟩
 ·rintro b s' ⟨rfl,_⟩
  exact y6 h
theorem Fb {o:Addr}{ob:Obj}{es:Array DictEntry}{ep:Nat}{Q:zzE}(hoS:(o == sysModules)=false)(ho:s.heap.get? o=some ob)(hx:ob.ExactDict)(hd:ob.data=.dict es ep)(ht:∀e∈es.toList,∃a,e.key=.ref a/\∃o',s.heap.get? a=some o'/\o'.cls=.type "tuple")(nd:(es.toList.map (·.hash)).Nodup)(hsz:es.size<=sizeLine)
  (h:∀h' o' qv,h'.get? s.heap.objs.size=some o'->o'.ExactDict->o'.data=.dict es qv->(∀b q,s.heap.get? b=some q->h'.get? b=some q)->Q (.ref s.heap.objs.size) { s with heap:=h' }) :
  wpAny (model prog w) A (call (.type "dict") [.ref o]) Q E s:=by
 refine callType_codes (Q₁:=λobj s₁=>obj=.ref s.heap.objs.size/\s₁={ s with heap:=s.heap.push { cls:=.type "dict",data:=.dict #[] } }) F.kt_called_dict (F.kt_typeCall_dict_1 _) F.entry_dict_init (kt_code_dict_new _ ⟨rfl,rfl⟩) ?_
 rintro obj s₁ ⟨rfl,rfl⟩
 have hn:(s.heap.push { cls:=.type "dict",data:=.dict #[] }).get? s.heap.objs.size=some { cls:=.type "dict",data:=.dict #[] }:=wE _ rfl
 have up:∀b q,s.heap.get? b=some q->(s.heap.push { cls:=.type "dict",data:=.dict #[] }).get? b=some q:=λb q e=>y8 _ e
 have hdo:s.heap.objs.size≠o:=zCr (kA ho)
 generalize s.heap.push { cls:=.type "dict",data:=.dict #[] }=h1 at *
 have tN:Shared.TypeIs { s with heap:=h1 } (.ref s.heap.objs.size) "dict":=⟨_,hn,rfl⟩
 have tO:Shared.TypeIs { s with heap:=h1 } (.ref o) "dict":=⟨_,up _ _ ho,hx.1⟩
 refine⟨tN,F.args_dict_init_2 _ _,?_⟩
 unfold Builtin.«dict.__init__»
 refine yB ?_
 unfold Builtin.Dict.selfAndRest
 refine yB (wpAny_notOrdered_dict tN ?_)
 show wpAny _ _ (pure (s.heap.objs.size,[Value.ref o])) _ _ _
 refine y6 ?_
 show wpAny _ _ (updateFrom "dict.__init__" s.heap.objs.size (.ref o) [] .none) _ _ _
 unfold updateFrom
 refine yB (zD3 tO ?_)
 rw[xL (by decide)]
 refine yB ?_
 unfold Builtin.Dict.merge
 refine yB ?_
 unfold Builtin.Dict.readDirectly
 refine yB (zD5 tO isSubtype_dict_dict ?_)
 simp only [zDw,zAi,zBa]
 refine yB (zEd tO F.slot_dict_iter.lookup (y6 ?_))
 simp only [beq_self_eq_true,zCt]
 refine yB (y6 ?_)
 unfold Builtin.Dict.mergeDict
 rw[xL (by simpa using hdo)]
 unfold showsAll
 rw[xL (by rw[hoS]; exact zAf)]
 refine yB (y6 ?_)
 refine yB (zCl (up _ _ ho) hd ?_)
 dsimp only
 split
 ·refine yB (zCl hn rfl ?_)
  rw[x4 (by rfl)]
  refine yB (E_ (up _ _ ho) hd (λe he=>?_) nd ?_)
  ·obtain⟨a,ea,o',g1,g2⟩:=ht e he
   exact⟨a,ea,o',up _ _ g1,g2⟩
  split
  ·refine yB (wpAny_updateDictKeysTo hn rfl (y6 ?_) (by omega))
   have:=zB4 (h:=h1) (a:=s.heap.objs.size) (Obj.mapDictKeys λ_=>es) hn rfl
   exact yB (y6 (y6 ⟨rfl,h _ _ 1 this ⟨rfl,rfl,rfl⟩ rfl λb q e=>(zBg _ _ (zCr (kA e))).trans (up b q e)⟩))
  ·rename_i hne
   have h0:es=#[]:=Array.isEmpty_iff.mp (by simpa using hne)
   subst h0
   exact y6 (yB (y6 (y6 ⟨rfl,h h1 _ _ hn ⟨rfl,rfl,rfl⟩ rfl up⟩)))
 ·rename_i hf
  have h0:es=#[]:=by
   cases q:es.toList with
   | nil=>exact Array.toList_eq_nil_iff.mp q
   | cons e r=>
    exfalso
    obtain⟨a,ea,_⟩:=ht e (by rw[q]; exact zAs)
    apply hf
    have:es.all (λe=>(keyPart e.key).isSome)=false:=by
     rw[←Array.all_toList,q,List.all_cons,ea]
     rfl
    rw[this,Bool.and_false]
    rfl
  subst h0
  refine yB (wpAny_dictEpoch (up _ _ ho) hd ?_)
  refine yB (zCl (up _ _ ho) hd ?_)
  refine yB ?_
  rw[Std.Legacy.Range.forIn_eq_forIn_range']
  refine y6 (y6 ?_)
  exact yB (y6 (y6 ⟨rfl,h h1 _ _ hn ⟨rfl,rfl,rfl⟩ rfl up⟩))
end
section
variable {X:Cx}(K:zzA)(P:Program)(w:World)
noncomputable def OY (K:zzA)(P:Program)(w:World):List V->Hp->VK->Prop:=λxs H Q=>∃a ks,xs=[.ref a]/\c_ K P w H a ks/\ks.length<=sizeLine/\(ks.map λk=>jU P w k.1).Nodup/\∀p o,H p=none->c_ K P w (upd H p o) p ks->Q (.ref p) (upd H p o)
theorem OZ (hK:X.K=K:=by rfl)(hP:X.prog=P:=by rfl)(hw:X.w=w:=by rfl):dg X (.type "dict") (OY K P w):=by
 subst hK; subst hP; subst hw
 intro pins s σ H xs us Q I r h
 obtain⟨a,ks,rfl,ha,hz,nh,q⟩:=h
 obtain⟨u,rfl,ru⟩:=vals1 r
 cases ru
 obtain⟨x0,ds,o,es,ep,ho,e1,e2,e3,e4,e5,e6,e7,e8,e9⟩:=tW I ha
 have hl:es.size=ks.length:=by rw[←c_.len e6,←u8,e3,y3]
 refine Fb x0 ho e1 e2 (λe he=>?_) ?_ (by omega) λh' o' qv g1 g2 g3 g4=>?_
 ·rw[e3] at he
  obtain⟨x,hx,rfl⟩:=x5.mp he
  obtain⟨⟨dd,ed⟩,_,k3⟩:=e5 x hx
  rw[ed] at k3
  unfold fO at k3
  obtain⟨c,oo,it,n,ec,k4,k5,_⟩:=k3
  cases ec
  exact⟨x.2.1,rfl,oo,k4,k5⟩
 ·have:es.toList.map (·.hash)=ks.map λk=>jU X.prog X.w k.1:=by
   rw[e3,zAy]
   have:ks.map (λk=>jU X.prog X.w k.1)=(ks.map (·.1)).map (jU X.prog X.w):=by rw[zAy]; rfl
   rw[this,←e6,zAy]
   rfl
  rw[this]
  exact nh
 ·have hp:H s.heap.objs.size=none:=I.hok.fresh (x3 _)
  have raw:x9 X.prog X.w h' s.heap.objs.size ds qv:=⟨zD9.mpr (Ne.symm (zAn I.big)),o',es,g1,g2,g3,e3,e4⟩
  exact⟨.ref s.heap.objs.size,_,I.laid (a:=s.heap.objs.size) (o:=jy X.prog X.w s.heap.objs.size ds qv) (t':=s.toks) g4 (x3 _) (vo raw),rfl,q _ _ hp ⟨ds,qv,aA,e6,λx hx=>(e7 x hx).tups λq xs h=>(ai.new hp _).tup h,e8⟩⟩
end
noncomputable def RU (K:zzA)(P:Program)(w:World)(a:Addr)(ds:List (Dt × Addr × Value))(ep:Nat):It:=
 ⟨λi H=>i < ds.length/\H a=some (jy P w a ds ep),λi H v H'=>H'=H/\∃b,v=.ref b/\(ds.map (·.2.1))[i]?=some b,λi H=>i=ds.length/\H a=some (jy P w a ds ep)⟩
theorem vp {P:Program}{w:World}{h:Heap}{a:Addr}{ds:List (Dt × Addr × Value)}{ep:Nat}(x:x9 P w h a ds ep):∃es,lN h a es ep/\es.size=ds.length/\∀i (hi:i < es.size),∃b,es[i].key=.ref b/\(ds.map (·.2.1))[i]?=some b:=by
 obtain⟨x0,o,es,ho,e1,e2,e3,e4⟩:=x
 have hl:es.size=ds.length:=by rw[←u8,e3,y3]
 refine⟨es,⟨x0,o,ho,e1,e2⟩,hl,λi hi=>?_⟩
 have:=entry_at e3 i
 rw[kS hi,xI (by omega)] at this
 have:=zAh this
 refine⟨(ds[i]'(by omega)).2.1,by rw[this]; rfl,?_⟩
 rw[wP,xI (by omega)]
 rfl
section
variable {X:Cx}
theorem G9 {P:Program}{w:World}{K:zzA}{tg:Expr}(a it:Addr)(ds:List (Dt × Addr × Value))(ep:Nat):Turn P w K tg (RU K P w a ds ep) [it] it (λi h=>h.IsKeyIter it a i ds.length ep) where
 mem:=by simp
 obj:=λi h st b hb=>by
  have e:b=it:=by simpa using hb
  subst e
  obtain⟨o,e,c,d⟩:=st
  exact⟨o,e,λv z=>by rw[d] at z; cases z⟩
 keep:=λi h h' st k=>st.at λo e=>k it (by simp) o e
 item:=by
  intro X hP hw hK hc i pins s σ H E I hf st hg
  subst hP hw hK
  obtain⟨hi,ha⟩:=hg
  obtain⟨x,_⟩:=(show bR X.prog X.w H s.heap a (jy X.prog X.w a ds ep) from I.hok a _ ha)
  obtain⟨es,rd,hl,ek⟩:=vp x
  obtain⟨f0,f1,f2,f3,f4,f5⟩:=hf it (by simp)
  obtain⟨b,eb,hb⟩:=ek i (by omega)
  refine zw rd (by rw[hl]; exact st) (by omega) λh' k' b'=>⟨_,rfl,?_⟩
  rw[hl] at k'
  obtain⟨o,e,c,d⟩:=id k'
  exact vO (s:={ s with heap:=h' }) e c d (by decide) ⟨.ref b,H,I.turned (t':=s.toks) (λc o hc e=>b'.extBut c o hc e) f0 f1 f3 f4 f5,by rw[eb]; rfl,⟨rfl,b,rfl,hb⟩,k',λc hc=>(hf c hc).1⟩
 done:=by
  intro X hP hw hK hc i pins s σ H E I hf st hg
  subst hP hw hK
  obtain⟨hi,ha⟩:=hg
  obtain⟨x,_⟩:=(show bR X.prog X.w H s.heap a (jy X.prog X.w a ds ep) from I.hok a _ ha)
  obtain⟨es,rd,hl,ek⟩:=vp x
  obtain⟨f0,f1,f2,f3,f4,f5⟩:=hf it (by simp)
  exact BO (I.ok.hd hc) rd (by rw[hl]; exact st) (by omega) λh' eb=>⟨rfl,I.turned (t':=s.toks) (λb o hb e=>eb b o hb e) f0 f1 f3 f4 f5⟩
 self:=λ_ _ _ _ _ st h=>wpAny_pyIter_keyiter st h
noncomputable def KZ (K:zzA)(P:Program)(w:World)(ta:TE):TI:=fun σ H R=>ta σ H λx H1=>∃a ds ep,x=.ref a/\H1 a=some (jy P w a ds ep)/\R (RU K P w a ds ep) H1
theorem O0 (K:zzA)(P:Program)(w:World){tg l:Expr}{tl:TE}(hl:PE X l tl)(hK:X.K=K:=by rfl)(hP:X.prog=P:=by rfl)(hw:X.w=w:=by rfl):PI X tg l (KZ K P w tl):=by
 subst hK; subst hP; subst hw
 intro pins s σ H R I h
 refine aZ (hl pins s σ H _ I h) λv s1 ⟨x,H1,I1,r1,q1⟩=>?_
 obtain⟨a,ds,ep,e,ha,q⟩:=q1
 subst e
 cases r1
 obtain⟨x,_⟩:=(show bR X.prog X.w H1 s1.heap a (jy X.prog X.w a ds ep) from I1.hok a _ ha)
 obtain⟨es,rd,hl,ek⟩:=vp x
 refine BN rd ?_
 refine⟨s1.heap.objs.size,[s1.heap.objs.size],_,_,H1,rfl,I1.kept (t':=s1.toks) λb o e=>y8 _ e,G9 a _ ds ep,⟨_,wE _ rfl,rfl,by rw[hl]; rfl⟩,λb hb=>?_,q⟩
 obtain rfl:b=s1.heap.objs.size:=by simpa using hb
 exact I1.uW (x3 _) (I1.hok.fresh (x3 _))
end
section
variable {K:zzA}{P:Program}{w:World}{ix:List (Option Nat)}{te ta:TE}{g:TG}{σ:St}{H H1:Hp}{Q:Addr->Hp->Prop}{R:VK}
theorem G_ {a:Addr}{ks:List (Dt × V)}(f:Nat->V)(h:Gv ta σ H (.ref a))(ha:c_ K P w H a ks)(hz:ks.length<=sizeLine)
  (hs:∀(i:Nat) (d:Dt) (b:Addr) (H':Hp) (R:VK),(ks.map (·.1))[i]?=some d->ai H H'->NK K H' d b->(∀H6,ai H' H6->R (f i) H6)->g (.ref b) (cN ix σ) H' fun σ4 H4=>te σ4 H4 R)
  (hd:∀D H',H D=none->ai H H'->H' D=some (.lst ((range ks.length).map f))->R (.ref D) H'):jR (KZ K P w ta) ix g kq te σ H R:=by
 refine h _ λH1 s1=>?_
 obtain⟨ds,ep,e1,e2,e3,e4⟩:=ha.same s1
 have hl:=c_.len e2
 refine⟨a,ds,ep,rfl,e1,?_⟩
 intro D hD
 refine⟨λi m zs H2=>m=ds.length - i/\i<=ds.length/\ai H1 H2/\zs=(range i).map f,⟨ds.length,by simp,zAw _,ai.new hD _,by simp⟩,?_⟩
 rintro i m zs H2 ⟨rfl,hi,sm,p⟩ aV
 by_cases hlt:i < ds.length
 ·refine .inr ⟨⟨hlt,sm _ _ e1⟩,λv H3 y=>?_⟩
  obtain⟨rfl,b,rfl,hb⟩:=y
  have hx:ds[i]?=some ds[i]:=xI hlt
  rw[wP,hx] at hb
  have hb:ds[i].2.1=b:=zAh hb
  have hk:=(e3 _ (zB9 hlt)).tups λq xs h=>sm.tup h
  refine hs i ds[i].1 b _ _ (by rw[←e2,wP,hx]; rfl) (s1.trans sm) (hb ▸ hk) λH6 r1=>?_
  refine⟨r1 _ _ aV,?_,ds.length - (i+1),by omega,rfl,hlt,(sm.trans r1).put hD _,?_⟩
  ·rw[p,y3,zBd]; omega
  ·rw[p,zBp,v4]; rfl
 ·have e:i=ds.length:=by omega
  subst e
  refine .inl ⟨⟨rfl,sm _ _ e1⟩,hd D H2 (s1.free hD) (s1.trans sm) ?_⟩
  rw[aV,p,hl]
end
section
variable {X:Cx}
noncomputable def Jy (K:zzA)(P:Program)(w:World):List V->Hp->VK->Prop:=λxs H Q=>∃(S:Addr) (ds:List (List Int × Addr × Value)),xs=[.ref S]/\H S=some (wB P w S ds)/\(∀x∈ds,aJ K H x.2.1 (x.1.map V.int))/\(∀x∈ds,x.1≠[])/\((ds.map (·.1)).Nodup->ds.length < 100000)/\
 ∀(l:Addr) (qs:zzD),H l=none->qs.Perm (ds.map λx=>(x.2.1,x.1))->qs.Pairwise (λp q=>HT.lexLt p.2 q.2=true)->Q (.ref l) (upd H l (.lst (qs.map rv)))
theorem Jz (K:zzA)(P:Program)(w:World)(hK:X.K=K:=by rfl)(hP:X.prog=P:=by rfl)(hw:X.w=w:=by rfl)(hc:X.calm=true:=by rfl):dg X (.builtin "sorted") (Jy K P w):=by
 subst hK; subst hP; subst hw
 intro pins s σ H xs us Q I r h
 obtain⟨S,ds,rfl,hS,ht,hne,h64,q⟩:=h
 obtain⟨u,rfl,ru⟩:=vals1 r
 cases ru
 obtain⟨⟨x0,o,es,ep,ho,e1,e2,e3,e4⟩,_⟩:=(show bR X.prog X.w H s.heap S (wB X.prog X.w S ds) from I.hok S _ hS)
 have h64:=h64 e4
 have hl:es.size=ds.length:=by rw[←u8,e3,y3]
 have rd:lN s.heap S es ep:=⟨x0,o,ho,e1,e2⟩
 generalize hps:ds.map (λx=>(x.2.1,x.1))=ps at q
 have hpl:ps.length=ds.length:=by rw[←hps,y3]
 have mem:∀p∈ps,∃x∈ds,p=(x.2.1,x.1):=λp hp=>by
  rw[←hps] at hp
  obtain⟨x,hx,e⟩:=x5.mp hp
  exact⟨x,hx,e.symm⟩
 have nd:(ps.map (·.2)).Nodup:=by rw[←hps,zAy]; exact e4
 refine TB.zd (C:=λh1 qs=>qs=ps/\∀b o,s.heap.get? b=some o->h1.get? b=some o) (I.ok.hd hc) (λA' E' R ha k=>?_) ?_ λh1 qs h2 tk l ps' c ⟨e,kp⟩ _ kp2 hle hl' pm pw=>?_
 ·refine PySem.W.kdu_collect Ms ha rd (by rw[hl,zAk]; omega) λh' tk acc kp hacc=>?_
  have ea:acc.toList=ps.map TB.rf:=by
   refine zCa (by rw[u8,y3,hpl,hacc.1,hl]) λi h1 h2=>?_
   have hi:i < acc.size:=by simpa using h1
   obtain⟨h3,h4⟩:=hacc.2 i acc[i] (by simp [hi])
   have:=entry_at e3 i
   rw[kS h3,xI (by omega)] at this
   have:=zAh this
   rw[this] at h4
   simp only [Array.getElem_toList,h4,List.getElem_map,←hps]
   rfl
  rw[ea]
  exact k h' tk ps kp ⟨rfl,kp⟩
 ·rintro h1 qs ⟨rfl,kp⟩
  exact⟨λp hp=>by
   obtain⟨x,hx,rfl⟩:=mem p hp
   exact TB.g9 (I.key (ht x hx)) λo e=>kp _ _ e,λp hp=>by
   obtain⟨x,hx,rfl⟩:=mem p hp
   exact hne x hx,nd,by omega⟩
 ·subst e
  have hz:(ps'.map rv).length<=sizeLine:=by rw[y3,pm.length_eq,zAk]; omega
  have kk:∀b o,s.heap.get? b=some o->h2.get? b=some o:=λb o e=>kp2 _ _ (kp _ _ e)
  have hs0:s.heap.get? l=none:=by
   cases e:s.heap.get? l with
   | none=>rfl
   | some o=>rw[kp _ _ e] at hle; cases hle
  have hn:H l=none:=I.ze hs0
  exact⟨.ref l,_,I.more (H':=upd H l (.lst (ps'.map rv))) (t':=tk) kk (ai.new hn _) (λb o n e=>by
   by_cases z:b=l
   ·subst z
    rw[aA] at e
    cases e
    exact⟨hs0,hz,ps'.map TB.rf,c,nW ps',hl'⟩
   ·rw[aT z,n] at e
    cases e),rfl,q _ ps' hn pm pw⟩
end
theorem JA {prog:Program}{w:World}{A:Around}{E:zzE}{s:Shared}{t b:Addr}{ws:List Value}{Q:zzE}(ht:IsTup s.heap t ([]:List Value).toArray)(hb:IsTup s.heap b ws.toArray)(h:Q (.ref b) s):wpAny (model prog w) A (binaryOp .Add (.ref t) (.ref b)) Q E s:=by
 obtain⟨⟨cls,dd,data,sl⟩,ho,hc,n,hd⟩:=id ht
 obtain⟨⟨NC,dd2,data2,sl2⟩,ho2,hc2,n2,hd2⟩:=id hb
 simp only at hc hd hc2 hd2
 subst hc hd hc2 hd2
 exact concat_meets ⟨_,ho,rfl⟩ ⟨_,ho2,rfl⟩ noFill_tuple_add seq_tuple_add PySem.F.slot_tuple_add PySem.F.entry_tuple_add (PySem.F.args_tuple_add_2 _ _)
   (tuple_addW0 t b ([]:List Value).toArray ws.toArray n n2 dd dd2 sl sl2 (by simp)) ⟨ho,ho2,h⟩
noncomputable def K0 (K:zzA):R2:=λx y H Q=>∃a b xs ys,x=.ref a/\y=.ref b/\aJ K H a xs/\aJ K H b ys/\xs.length+ys.length<=sizeLine/\
 (xs=[]->Q (.ref b) H)/\(ys=[]->Q (.ref a) H)/\∀p,H p=none->Q (.ref p) (upd H p (.tup (xs++ys)))
theorem wQ {X:Cx}(K:zzA)(hK:X.K=K:=by rfl):dz X (binaryOp .Add) (K0 K):=by
 subst hK
 intro pins s σ H x y v u Q I rx ry h
 obtain⟨a,b,xs,ys,rfl,rfl,ha,hb,hz,q0,q1,q2⟩:=h
 by_cases hx:xs=[]
 ·subst hx
  cases rx
  cases ry
  obtain⟨its,r1,p1,_⟩:=I.tuple ha
  obtain⟨its2,r2,p2,_⟩:=I.tuple hb
  cases r1
  exact JA p1 p2 ⟨.ref b,H,I,rfl,q0 rfl⟩
 ·exact LN pins s σ H _ _ v u Q I rx ry ⟨a,b,xs,ys,rfl,rfl,ha,hb,hx,hz,q1,λ_=>q2⟩
noncomputable def Gw (K:zzA)(te:TE)(σ:St)(H:Hp)(xs:List V):Prop:=∀R:VK,(∀p H',ai H H'->aJ K H' p xs->R (.ref p) H')->te σ H R
section
variable {K:zzA}{te ta tb tl th:TE}{tt:TA}{σ:St}{H:Hp}{xs ys:List V}
theorem K1 (h:Gw K te σ H xs)(e:xs=ys):Gw K te σ H ys:=e ▸ h
theorem lO {a:Addr}(h:Gv te σ H (.ref a))(hq:aJ K H a xs):Gw K te σ H xs:=λR r=>h _ λH' s=>r a H' s (s.tup hq)
theorem dN (h:Ga tt σ H xs)(hz:xs.length<=sizeLine):Gw K (uY tt) σ H xs:=λR r=>h _ λH' s=>⟨hz,λp hp=>r p _ (s.trans (ai.new hp _)) (aJ.of aA)⟩
theorem sA (ha:Gw K ta σ H xs)(hb:∀H',ai H H'->Gw K tb σ H' ys)(hz:xs.length+ys.length<=sizeLine):Gw K (di (K0 K) ta tb) σ H (xs++ys):=
 λR r=>ha _ λa H1 s1 h1=>hb H1 s1 _ λb H2 s2 h2=>⟨a,b,xs,ys,rfl,rfl,s2.tup h1,h2,hz,λe=>r b H2 (s1.trans s2) (by rw[e,List.nil_append]; exact h2),
  λe=>r a H2 (s1.trans s2) (by rw[e,zBc]; exact s2.tup h1),λq hq=>r q _ ((s1.trans s2).trans (ai.new hq _)) (aJ.of aA)⟩
theorem Q9 {i j:Int}(ha:Gw K ta σ H xs)(hl:∀H',ai H H'->Gv tl σ H' (.int i))(hh:∀H',ai H H'->Gv th σ H' (.int j))(hw:¬ (HT.bH xs.length 0 (some i)=0/\HT.bH xs.length xs.length (some j)=xs.length)):Gw K (AV (EE K) ta (nS tl) (nS th)) σ H (gM xs (some i) (some j)):=
 λR r=>ha _ λa H1 s1 h1=>hl H1 s1 _ λH2 s2=>⟨i,rfl,hh H2 (s1.trans s2) _ λH3 s3=>⟨j,rfl,a,xs,rfl,(s2.trans s3).tup h1,hw,λq hq=>r q _ ((s1.trans (s2.trans s3)).trans (ai.new hq _)) (aJ.of aA)⟩⟩
theorem Mu {j:Int}(ha:Gw K ta σ H xs)(hh:∀H',ai H H'->Gv th σ H' (.int j))(hw:¬ (HT.bH xs.length 0 none=0/\HT.bH xs.length xs.length (some j)=xs.length)):Gw K (AV (EE K) ta mQ (nS th)) σ H (gM xs none (some j)):=
 λR r=>ha _ λa H1 s1 h1=>hh H1 s1 _ λH3 s3=>⟨j,rfl,a,xs,rfl,s3.tup h1,hw,λq hq=>r q _ ((s1.trans s3).trans (ai.new hq _)) (aJ.of aA)⟩
theorem Q_ (ha:Gw K ta σ H xs)(hb:∀H',ai H H'->Gw K tb σ H' ys):Gw K (OF K ta tb) σ H (if xs=[] then ys else xs):=λR r=>ha _ λa H1 s1 h1=>by
 refine⟨!xs.isEmpty,.inr (.inl ⟨xs,h1,rfl⟩),?_⟩
 cases xs with
 | nil=>
  rw[xL (by simp)]
  exact hb H1 s1 _ λb H2 s2 h2=>r b H2 (s1.trans s2) h2
 | cons x xs=>
  rw[x4 (show (!(x::xs).isEmpty)=true from rfl)]
  exact r a H1 s1 h1
theorem Ra {i:Int}{v:V}(h:Gw K ta σ H xs)(g:∀H',ai H H'->Gv tb σ H' (.int i))(hi:iR xs i=some v):Gv (di (xN K) ta tb) σ H v:=λR r=>h _ λa H' s h1=>g H' s _ λH2 s2=>⟨a,xs,i,v,rfl,rfl,s2.tup h1,hi,r H2 (s.trans s2)⟩
theorem K2 {L:Addr}{k:List Int}{ps:zzD}(ha:Gw K ta σ H (k.map V.int))(hd:∀H',ai H H'->Gv tb σ H' (.ref L))(hL:aD K H L (ps.map rv))(ht:∀p∈ps,aJ K H p.1 (p.2.map V.int)) :
  Gv (di (Je K false) ta tb) σ H (.bl (decide (k∈ps.map (·.2)))):=λR r=>ha _ λc H1 s1 h1=>hd H1 s1 _ λH2 s2=>⟨c,L,k,ps,rfl,rfl,s2.tup h1,(s1.trans s2).seq hL,λp hp=>(s1.trans s2).tup (ht p hp),by
  have e:decide (∃p∈ps,p.2=k)=decide (k∈ps.map (·.2)):=by
   congr 1
   rw[x5]
  rw[false_xor,e]
  exact r H2 (s1.trans s2)⟩
end
end L2
namespace RV
open PySem
section
variable {G G':Gs}{d e:Nat}{n r:Int}{fs:List Int}{ps:O1}{S S':List Int->Prop}
variable {a b:Int}
end
end RV
namespace L2
open PySem PySem.Spec PyProof.Rows
section
variable {K:zzA}{ix:List (Option Nat)}{te:TE}{g:TG}{tf:TT}{σ:St}{H1:Hp}{Q:Addr->Hp->Prop}
end
end L2
set_option maxHeartbeats 1000000
namespace WD
open PySem PySem.Spec PyProof.Rows L2 RV TB
section
variable {P:Program}{w:World}{K:zzA}{H H' H2:Hp}{a b c p:Addr}{o:HO}{xs:List V}
variable {M M':Mp}{G G':Gs}{L L':Nat}{k:Kd}
theorem zA {ta tb:TE}{D:Ends}{σ:L2.St}{l:Addr}{y:V}(ha:Gv ta σ H (.ref l))(hq:H l=some (.lst xs))(hb:∀H',ai H H'->Gv tb σ H' y)(hz:xs.length < sizeLine)(k:∀H',ai H H'->D.nx σ (upd H' l (.lst (xs++[y])))):tD (yV K "list" xO ta (bE tb cM)) D σ H:=
 ha _ λH1 s1=>⟨.inl ⟨rfl,_,aD.of (s1 _ _ hq)⟩,hb H1 s1 _ λH2 s2=>⟨l,xs,y,rfl,rfl,(s1.trans s2) _ _ hq,hz,k H2 (s1.trans s2)⟩⟩
theorem zB {ta tb:TE}{us:TS}{D:Ends}{σ:L2.St}{l:Addr}{y:V}(ha:Gv ta σ H (.ref l))(hq:H l=some (.lst xs))(hb:∀H',ai H H'->Gv tb σ H' y)(hz:xs.length < sizeLine)(k:∀H',ai H H'->us D σ (upd H' l (.lst (xs++[y])))):iW (tD (yV K "list" xO ta (bE tb cM))) us D σ H:=
 zA (D:={ D with nx:=us D }) ha hq hb hz k
section
variable {i:Nat}{f:Str}{tb:TS}{te:TE}{D:Ends}{σ:L2.St}{C dx:Addr}{fs:List (Str × V)}{S:Sm}{d:Dt}
end
section
variable {α β:Type}{R R':α->β->Prop}{xs:List α}{ys:List β}
end
variable {qs gs:List (Addr × Int × Int)}{e c:Nat}{S:Int × Int->List Int->Prop}
end
end WD
namespace jL
abbrev Tp:=Int->Int->Int->Int->Prop
noncomputable def bd (h w:Nat)(g:Nat->Nat->Int)(y x:Nat):Int:=if 1<=y/\y<=h/\1<=x/\x<=w then g (y - 1) (x - 1) else -1
noncomputable def K3 (T:Tp)(h w:Nat)(g:Nat->Nat->Int):Prop:=∀y x,y<=h->x<=w->T (bd h w g y x) (bd h w g y (x+1)) (bd h w g (y+1) x) (bd h w g (y+1) (x+1))
noncomputable def Fits (L:List Nat)(h w:Nat)(p:Nat->Nat->Nat)(g:Nat->Nat->Int):Prop:=∀y x,y < h->x < w->∃i:Nat,g y x=i/\L[i]?=some (p y x)
noncomputable def Lt (L:List Nat)(T:Tp)(h w:Nat)(p:Nat->Nat->Nat):Prop:=∃g,Fits L h w p g/\K3 T h w g
theorem fJ {h w:Nat}{g:Nat->Nat->Int}{y x:Nat}(hy:y < h)(hx:x < w):bd h w g (y+1) (x+1)=g y x:=by
 unfold bd
 rw[x4 ⟨by omega,by omega,by omega,by omega⟩]
 rfl
theorem fy {h w:Nat}{g:Nat->Nat->Int}{y x:Nat}(h1:¬ (1<=y/\y<=h/\1<=x/\x<=w)):bd h w g y x=-1:=xL h1
theorem wR {h w:Nat}{g:Nat->Nat->Int}{y x:Nat}(hx:x<=w+1):bd h w (λy x=>g y (w - 1 - x)) y x=bd h w g y (w+1 - x):=by
 unfold bd
 by_cases c:1<=y/\y<=h/\1<=x/\x<=w
 ·rw[x4 c,x4 ⟨c.1,c.2.1,by omega,by omega⟩]
  show g (y - 1) (w - 1 - (x - 1))=g (y - 1) (w+1 - x - 1)
  rw[show w - 1 - (x - 1)=w+1 - x - 1 by omega]
 ·rw[xL c,xL (by omega)]
theorem DN {L:List Nat}{T:Tp}{h w:Nat}{p:Nat->Nat->Nat}(H:Lt L T h w p):Lt L (λa b c d=>T b a d c) h w (λy x=>p y (w - 1 - x)):=by
 obtain⟨g,hf,hs⟩:=H
 refine⟨λy x=>g y (w - 1 - x),λy x hy hx=>hf y (w - 1 - x) hy (by omega),λy x hy hx=>?_⟩
 rw[wR (by omega),wR (by omega),wR (by omega),wR (by omega)]
 have:=hs y (w - x) hy (by omega)
 rw[show w - x+1=w+1 - x by omega] at this
 rw[show w+1 - (x+1)=w - x by omega]
 exact this
theorem Mv {L:List Nat}{T:Tp}{h w:Nat}{p:Nat->Nat->Nat}:Lt L (λa b c d=>T b a d c) h w p↔Lt L T h w (λy x=>p y (w - 1 - x)):=by
 constructor
 ·exact λH=>DN H
 ·intro H
  have:=DN H
  obtain⟨g,hf,hs⟩:=this
  refine⟨g,λy x hy hx=>?_,hs⟩
  obtain⟨i,h1,h2⟩:=hf y x hy hx
  refine⟨i,h1,?_⟩
  rw[h2]
  show some (p y (w - 1 - (w - 1 - x)))=_
  rw[show w - 1 - (w - 1 - x)=x by omega]
theorem Rb {h w:Nat}{g:Nat->Nat->Int}{y x:Nat}:bd w h (λy x=>g x y) y x=bd h w g x y:=by
 unfold bd
 by_cases c:1<=y/\y<=w/\1<=x/\x<=h
 ·rw[x4 c,x4 ⟨c.2.2.1,c.2.2.2,c.1,c.2.1⟩]
 ·rw[xL c,xL (by omega)]
theorem Hf {L:List Nat}{T:Tp}{h w:Nat}{p:Nat->Nat->Nat}(H:Lt L T h w p):Lt L (λa b c d=>T a c b d) w h (λy x=>p x y):=by
 obtain⟨g,hf,hs⟩:=H
 refine⟨λy x=>g x y,λy x hy hx=>hf x y hx hy,λy x hy hx=>?_⟩
 have e:∀y x,bd w h (λy x=>g x y) y x=bd h w g x y:=λ_ _=>Rb
 show T (bd w h (λy x=>g x y) y x) (bd w h (λy x=>g x y) (y+1) x) (bd w h (λy x=>g x y) y (x+1)) (bd w h (λy x=>g x y) (y+1) (x+1))
 rw[e,e,e,e]
 exact hs x y hx hy
theorem pP {L:List Nat}{T:Tp}{h w:Nat}{p:Nat->Nat->Nat}:Lt L (λa b c d=>T a c b d) h w p↔Lt L T w h (λy x=>p x y):=⟨λH=>Hf H,λH=>Hf H⟩
noncomputable def mv (n:Nat)(f:Int):Int:=if f=-1 then -1 else f+n
noncomputable def sC (n:Nat)(T:Tp):Tp:=λa b c d=>∃a' b' c' d',T a' b' c' d'/\a=mv n a'/\b=mv n b'/\c=mv n c'/\d=mv n d'
noncomputable def Fl (n:Nat)(T:Tp):Prop:=∀a b c d,T a b c d->(-1<=a/\a < n)/\(-1<=b/\b < n)/\(-1<=c/\c < n)/\(-1<=d/\d < n)
theorem wU {n:Nat}{f g:Int}(hf:-1<=f)(hg:-1<=g)(e:mv n f=mv n g):f=g:=by
 unfold mv at e
 split at e <;> split at e <;> omega
theorem spread {h w:Nat}{P:Nat->Nat->Prop}(hr:∀y x,y < h->x+1 < w->(P y x↔P y (x+1)))(hc:∀y x,y+1 < h->x < w->(P y x↔P (y+1) x)):∀y x,y < h->x < w->(P 0 0↔P y x):=by
 have row:∀y x,y < h->x < w->(P y 0↔P y x):=by
  intro y x hy
  induction x with
  | zero=>exact λ_=>Iff.rfl
  | succ x ih=>exact λhx=>(ih (by omega)).trans (hr y x hy hx)
 intro y
 induction y with
 | zero=>exact λx hy hx=>row 0 x hy hx
 | succ y ih=>exact λx hy hx=>((ih 0 (by omega) (by omega)).trans (hc y 0 hy (by omega))).trans (row (y+1) x hy hx)
theorem mono {L L':List Nat}{T T':Tp}{h w:Nat}{p:Nat->Nat->Nat}(hL:∀(i v:Nat),L[i]?=some v->L'[i]?=some v)(hT:∀a b c d,T a b c d->T' a b c d)(H:Lt L T h w p):Lt L' T' h w p:=by
 obtain⟨g,hf,hs⟩:=H
 refine⟨g,λy x hy hx=>?_,λy x hy hx=>hT _ _ _ _ (hs y x hy hx)⟩
 obtain⟨i,h1,h2⟩:=hf y x hy hx
 exact⟨i,h1,hL i _ h2⟩
theorem tY {h w n:Nat}{g:Nat->Nat->Int}(hg:∀y x,y < h->x < w->0<=g y x)(y x:Nat):bd h w (λy x=>g y x+n) y x=mv n (bd h w g y x):=by
 unfold bd mv
 by_cases c:1<=y/\y<=h/\1<=x/\x<=w
 ·have:=hg (y - 1) (x - 1) (by omega) (by omega)
  rw[x4 c,x4 c,xL (by omega)]
 ·rw[xL c,xL c,x4 rfl]
theorem moved {L1 L2:List Nat}{T:Tp}{h w:Nat}{p:Nat->Nat->Nat}(H:Lt L2 T h w p):Lt (L1++L2) (sC L1.length T) h w p:=by
 obtain⟨g,hf,hs⟩:=H
 have hg:∀y x,y < h->x < w->0<=g y x:=λy x hy hx=>by
  obtain⟨i,h1,_⟩:=hf y x hy hx
  omega
 refine⟨λy x=>g y x+L1.length,λy x hy hx=>?_,λy x hy hx=>?_⟩
 ·obtain⟨i,h1,h2⟩:=hf y x hy hx
  refine⟨L1.length+i,by show g y x+_=_; omega,?_⟩
  rw[zAz (by omega),show L1.length+i - L1.length=i by omega]
  exact h2
 ·exact⟨_,_,_,_,hs y x hy hx,tY hg _ _,tY hg _ _,tY hg _ _,tY hg _ _⟩
theorem DO {L1 L2:List Nat}{T:Tp}{h w:Nat}{p:Nat->Nat->Nat}{g:Nat->Nat->Int}(hf:Fits (L1++L2) h w p g)(hF:Fl L2.length T)(hb:∀y x,y < h->x < w->(L1.length:Int)<=g y x)(hs:K3 (sC L1.length T) h w g):Lt L2 T h w p:=by
 have e:∀y x,bd h w g y x=mv L1.length (bd h w (λy x=>g y x - L1.length) y x):=λy x=>by
  unfold bd mv
  dsimp only
  by_cases c:1<=y/\y<=h/\1<=x/\x<=w
  ·have:=hb (y - 1) (x - 1) (by omega) (by omega)
   rw[x4 c,x4 c,xL (by omega)]
   omega
  ·rw[xL c,xL c,x4 rfl]
 have lo:∀y x,-1<=bd h w (λy x=>g y x - L1.length) y x:=λy x=>by
  unfold bd
  dsimp only
  by_cases c:1<=y/\y<=h/\1<=x/\x<=w
  ·have:=hb (y - 1) (x - 1) (by omega) (by omega)
   rw[x4 c]
   omega
  ·rw[xL c]; exact Int.le_refl _
 refine⟨λy x=>g y x - L1.length,λy x hy hx=>?_,λy x hy hx=>?_⟩
 ·obtain⟨i,h1,h2⟩:=hf y x hy hx
  have:=hb y x hy hx
  refine⟨i - L1.length,by show g y x - _=_; omega,?_⟩
  rw[zAz (by omega)] at h2
  exact h2
 ·obtain⟨a,b,c,d,ht,e1,e2,e3,e4⟩:=hs y x hy hx
  obtain⟨f1,f2,f3,f4⟩:=hF _ _ _ _ ht
  rw[e] at e1 e2 e3 e4
  rw[wU (lo _ _) f1.1 e1,wU (lo _ _) f2.1 e2,wU (lo _ _) f3.1 e3,wU (lo _ _) f4.1 e4]
  exact ht
theorem Fc {L1 L2:List Nat}{T1 T2:Tp}{h w:Nat}{p:Nat->Nat->Nat}(hh:1<=h)(hw:1<=w)(F1:Fl L1.length T1)(F2:Fl L2.length T2):Lt (L1++L2) (λa b c d=>T1 a b c d\/sC L1.length T2 a b c d) h w p↔Lt L1 T1 h w p\/Lt L2 T2 h w p:=by
 constructor
 ·rintro⟨g,hf,hs⟩
  have one:∀y x,y<=h->x<=w->(∀f∈[bd h w g y x,bd h w g y (x+1),bd h w g (y+1) x,bd h w g (y+1) (x+1)],f < L1.length)\/(∀f∈[bd h w g y x,bd h w g y (x+1),bd h w g (y+1) x,bd h w g (y+1) (x+1)],f=-1\/(L1.length:Int)<=f):=λy x hy hx=>by
   rcases hs y x hy hx with t | ⟨a,b,c,d,t,e1,e2,e3,e4⟩
   ·obtain⟨f1,f2,f3,f4⟩:=F1 _ _ _ _ t
    left
    intro f hf
    simp only [wS,zBr,zBz] at hf
    rcases hf with rfl | rfl | rfl | rfl <;> omega
   ·obtain⟨f1,f2,f3,f4⟩:=F2 _ _ _ _ t
    right
    have m:∀z:Int,-1<=z->mv L1.length z=-1\/(L1.length:Int)<=mv L1.length z:=λz hz=>by
     unfold mv
     split
     ·exact .inl rfl
     ·right; omega
    intro f hf
    simp only [wS,zBr,zBz] at hf
    rcases hf with rfl | rfl | rfl | rfl
    ·rw[e1]; exact m a f1.1
    ·rw[e2]; exact m b f2.1
    ·rw[e3]; exact m c f3.1
    ·rw[e4]; exact m d f4.1
  have pos:∀y x,y < h->x < w->0<=g y x:=λy x hy hx=>by
   obtain⟨i,h1,_⟩:=hf y x hy hx
   omega
  have sp:=spread (h:=h) (w:=w) (P:=λy x=>g y x < L1.length) (λy x hy hx=>by
   have h0:=pos y x hy (by omega)
   have h1:=pos y (x+1) hy hx
   have q:=one (y+1) (x+1) (by omega) (by omega)
   rw[fJ hy (by omega:x < w),fJ hy hx] at q
   rcases q with q | q
   ·exact⟨λ_=>q _ (by simp),λ_=>q _ (by simp)⟩
   ·have a1:=q (g y x) (by simp)
    have a2:=q (g y (x+1)) (by simp)
    omega) (λy x hy hx=>by
   have h0:=pos y x (by omega) hx
   have h1:=pos (y+1) x hy hx
   have q:=one (y+1) (x+1) (by omega) (by omega)
   rw[fJ (by omega:y < h) hx,fJ hy hx] at q
   rcases q with q | q
   ·exact⟨λ_=>q _ (by simp),λ_=>q _ (by simp)⟩
   ·have a1:=q (g y x) (by simp)
    have a2:=q (g (y+1) x) (by simp)
    omega)
  have K6:∀y x,y<=h->x<=w->∃y' x',y' < h/\x' < w/\g y' x'∈[bd h w g y x,bd h w g y (x+1),bd h w g (y+1) x,bd h w g (y+1) (x+1)]:=λy x hy hx=>by
   by_cases c1:y=0
   ·subst c1
    by_cases c2:x=0
    ·subst c2
     exact⟨0,0,by omega,by omega,by rw[fJ (y:=0) (x:=0) (by omega) (by omega)]; simp⟩
    ·obtain⟨x',rfl⟩:∃x',x=x'+1:=⟨x - 1,by omega⟩
     exact⟨0,x',by omega,by omega,by rw[fJ (y:=0) (x:=x') (by omega) (by omega)]; simp⟩
   ·obtain⟨y',rfl⟩:∃y',y=y'+1:=⟨y - 1,by omega⟩
    by_cases c2:x=0
    ·subst c2
     exact⟨y',0,by omega,by omega,by rw[fJ (y:=y') (x:=0) (by omega) (by omega)]; simp⟩
    ·obtain⟨x',rfl⟩:∃x',x=x'+1:=⟨x - 1,by omega⟩
     exact⟨y',x',by omega,by omega,by rw[fJ (y:=y') (x:=x') (by omega) (by omega)]; simp⟩
  by_cases c:g 0 0 < L1.length
  ·left
   refine⟨g,λy x hy hx=>?_,λy x hy hx=>?_⟩
   ·obtain⟨i,h1,h2⟩:=hf y x hy hx
    have:=(sp y x hy hx).mp c
    rw[zA8 (by omega)] at h2
    exact⟨i,h1,h2⟩
   ·rcases hs y x hy hx with t | ⟨a,b,c',d,t,e1,e2,e3,e4⟩
    ·exact t
    ·exfalso
     obtain⟨y',x',h1,h2,h3⟩:=K6 y x hy hx
     have z1:=(sp y' x' h1 h2).mp c
     have z2:=pos y' x' h1 h2
     obtain⟨f1,f2,f3,f4⟩:=F2 _ _ _ _ t
     simp only [wS,zBr,zBz] at h3
     have m:∀z:Int,-1<=z->mv L1.length z=g y' x'->False:=λz hz e=>by
      unfold mv at e
      split at e <;> omega
     rcases h3 with h3 | h3 | h3 | h3
     ·exact m a f1.1 (e1.symm.trans h3.symm)
     ·exact m b f2.1 (e2.symm.trans h3.symm)
     ·exact m c' f3.1 (e3.symm.trans h3.symm)
     ·exact m d f4.1 (e4.symm.trans h3.symm)
  ·right
   refine DO hf F2 (λy x hy hx=>?_) λy x hy hx=>?_
   ·have:¬ g y x < L1.length:=λq=>c ((sp y x hy hx).mpr q)
    omega
   ·rcases hs y x hy hx with t | t
    ·exfalso
     obtain⟨y',x',h1,h2,h3⟩:=K6 y x hy hx
     have z1:¬ g y' x' < L1.length:=λq=>c ((sp y' x' h1 h2).mpr q)
     obtain⟨f1,f2,f3,f4⟩:=F1 _ _ _ _ t
     simp only [wS,zBr,zBz] at h3
     rcases h3 with h3 | h3 | h3 | h3 <;> omega
    ·exact t
 ·rintro (H | H)
  ·exact mono (λi v hi=>by
    have:=(zAp.mp hi).1
    rw[zA8 this]; exact hi) (λ_ _ _ _ t=>.inl t) H
  ·exact mono (λ_ _ hi=>hi) (λ_ _ _ _ t=>.inr t) (moved H)
noncomputable def sD (n:Nat)(T1 T2:Tp):Tp:=λa b c d=>(T1 a b c d/\¬ (b=-1/\d=-1))\/(sC n T2 a b c d/\¬ (a=-1/\c=-1))\/(T1 a (-1) c (-1)/\sC n T2 (-1) b (-1) d/\(a=-1↔b=-1)/\(c=-1↔d=-1))
theorem tZ {n:Nat}{z:Int}(hz:-1<=z):mv n z=-1\/(n:Int)<=mv n z:=by
 unfold mv
 split
 ·exact .inl rfl
 ·right; omega
theorem BU {n m:Nat}{T:Tp}(F:Fl m T){a b c d:Int}(t:sC n T a b c d):(a=-1\/(n:Int)<=a)/\(b=-1\/(n:Int)<=b)/\(c=-1\/(n:Int)<=c)/\(d=-1\/(n:Int)<=d):=by
 obtain⟨a',b',c',d',t,rfl,rfl,rfl,rfl⟩:=t
 obtain⟨f1,f2,f3,f4⟩:=F _ _ _ _ t
 exact⟨tZ f1.1,tZ f2.1,tZ f3.1,tZ f4.1⟩
theorem nF {h w:Nat}{g:Nat->Nat->Int}(pos:∀y x,y < h->x < w->0<=g y x){y x:Nat}:bd h w g y x=-1↔¬ (1<=y/\y<=h/\1<=x/\x<=w):=by
 unfold bd
 by_cases c:1<=y/\y<=h/\1<=x/\x<=w
 ·have:=pos (y - 1) (x - 1) (by omega) (by omega)
  rw[x4 c]
  exact⟨λe=>by omega,λz=>absurd c z⟩
 ·rw[xL c]
  exact⟨λ_=>c,λ_=>rfl⟩
theorem qo {L:List Nat}{h w:Nat}{p:Nat->Nat->Nat}{g:Nat->Nat->Int}(hf:Fits L h w p g):∀y x,y < h->x < w->0<=g y x:=λy x hy hx=>by
 obtain⟨i,h1,_⟩:=hf y x hy hx
 omega
theorem oB {L1 L2:List Nat}{T1 T2:Tp}{h w k:Nat}{p:Nat->Nat->Nat}(hh:1<=h)(hk:1<=k)(hw:k < w)(H1:Lt L1 T1 h k p)(H2:Lt L2 T2 h (w - k) (λy x=>p y (k+x))):Lt (L1++L2) (sD L1.length T1 T2) h w p:=by
 obtain⟨g1,f1,s1⟩:=H1
 obtain⟨g2,f2,s2⟩:=H2
 have p1:=qo f1
 have p2:=qo f2
 have eL:∀y x,x<=k->bd h w (λy x=>if x < k then g1 y x else g2 y (x - k)+L1.length) y x=bd h k g1 y x:=λy x hx=>by
  unfold bd
  dsimp only
  by_cases c:1<=y/\y<=h/\1<=x/\x<=w
  ·rw[x4 c,x4 (by omega),x4 ⟨c.1,c.2.1,c.2.2.1,hx⟩]
  ·rw[xL c,xL (by omega)]
 have eR:∀y x,bd h w (λy x=>if x < k then g1 y x else g2 y (x - k)+L1.length) y (k+1+x)=mv L1.length (bd h (w - k) g2 y (x+1)):=λy x=>by
  rw[←tY p2]
  unfold bd
  dsimp only
  by_cases c:1<=y/\y<=h/\1<=k+1+x/\k+1+x<=w
  ·rw[x4 c,xL (by omega),x4 ⟨c.1,c.2.1,by omega,by omega⟩,show k+1+x - 1 - k=x+1 - 1 by omega]
  ·rw[xL c,xL (by omega)]
 refine⟨λy x=>if x < k then g1 y x else g2 y (x - k)+L1.length,λy x hy hx=>?_,λy x hy hx=>?_⟩
 ·by_cases c:x < k
  ·obtain⟨i,h1,h2⟩:=f1 y x hy c
   have hi:=(zAp.mp h2).1
   exact⟨i,by dsimp only; rw[x4 c,h1],by rw[zA8 hi]; exact h2⟩
  ·obtain⟨i,h1,h2⟩:=f2 y (x - k) hy (by omega)
   refine⟨L1.length+i,by dsimp only; rw[xL c,h1]; omega,?_⟩
   rw[zAz (by omega),show L1.length+i - L1.length=i by omega,h2]
   show some (p y (k+(x - k)))=_
   rw[show k+(x - k)=x by omega]
 ·by_cases c:x < k
  ·left
   rw[eL _ _ (by omega),eL _ _ (by omega),eL _ _ (by omega),eL _ _ (by omega)]
   refine⟨s1 y x hy (by omega),λz=>?_⟩
   have z1:=(nF p1).mp z.1
   have z2:=(nF p1).mp z.2
   omega
  ·by_cases c2:x=k
   ·subst c2
    right; right
    rw[eL _ _ (by omega),eL _ _ (by omega)]
    have e1:=eR y 0
    have e2:=eR (y+1) 0
    rw[zD2] at e1 e2
    rw[e1,e2]
    have t1:=s1 y x hy (by omega)
    rw[fy (y:=y) (x:=x+1) (by omega),fy (y:=y+1) (x:=x+1) (by omega)] at t1
    have t2:=s2 y 0 hy (by omega)
    rw[fy (y:=y) (x:=0) (by omega),fy (y:=y+1) (x:=0) (by omega)] at t2
    have m1:∀y',mv L1.length (bd h (w - x) g2 y' (0+1))=-1↔bd h (w - x) g2 y' (0+1)=-1:=λy'=>by
     have q:-1<=bd h (w - x) g2 y' (0+1):=by
      unfold bd
      split
      ·have:=p2 (y' - 1) (0+1 - 1) (by omega) (by omega)
       omega
      ·exact Int.le_refl _
     unfold mv
     split
     ·exact⟨λ_=>by assumption,λ_=>rfl⟩
     ·exact⟨λe=>by omega,λe=>by omega⟩
    refine⟨t1,⟨_,_,_,_,t2,rfl,rfl,rfl,rfl⟩,?_,?_⟩
    ·rw[m1,nF p1,nF p2]; omega
    ·rw[m1,nF p1,nF p2]; omega
   ·right; left
    obtain⟨x',rfl⟩:∃x',x=k+1+x':=⟨x - k - 1,by omega⟩
    rw[show k+1+x'+1=k+1+(x'+1) by omega,eR,eR,eR,eR]
    refine⟨⟨_,_,_,_,s2 y (x'+1) hy (by omega),rfl,rfl,rfl,rfl⟩,λz=>?_⟩
    have nn:∀y':Nat,1<=y'->y'<=h->mv L1.length (bd h (w - k) g2 y' (x'+1))≠-1:=λy' h1 h2 e=>by
     rw[←tY p2] at e
     have p3:∀y x,y < h->x < w - k->0<=g2 y x+(L1.length:Int):=λy x hy hx=>by
      have:=p2 y x hy hx
      omega
     exact (nF (g:=λy x=>g2 y x+(L1.length:Int)) p3).mp e ⟨h1,h2,by omega,by omega⟩
    by_cases y0:y=0
    ·exact nn (y+1) (by omega) (by omega) z.2
    ·exact nn y (by omega) hy z.1
theorem turn {w:Nat}{P:Nat->Prop}[DecidablePred P](h0:P 0)(hw:¬ P w):∃k,k < w/\P k/\¬ P (k+1):=by
 induction w with
 | zero=>exact absurd h0 hw
 | succ w ih=>
  by_cases c:P w
  ·exact⟨w,by omega,c,hw⟩
  ·obtain⟨k,h1,h2⟩:=ih c
   exact⟨k,by omega,h2⟩
theorem Hg {L1 L2:List Nat}{T1 T2:Tp}{h w:Nat}{p:Nat->Nat->Nat}(hh:1<=h)(hw:1<=w)(F1:Fl L1.length T1)(F2:Fl L2.length T2)(H:Lt (L1++L2) (sD L1.length T1 T2) h w p):∃k,1<=k/\k < w/\Lt L1 T1 h k p/\Lt L2 T2 h (w - k) (λy x=>p y (k+x)):=by
 obtain⟨g,hf,hs⟩:=H
 have pos:=qo hf
 have kind:∀y x,y<=h->x<=w->
   ((bd h w g y x < L1.length/\bd h w g y (x+1) < L1.length/\bd h w g (y+1) x < L1.length/\bd h w g (y+1) (x+1) < L1.length)/\T1 (bd h w g y x) (bd h w g y (x+1)) (bd h w g (y+1) x) (bd h w g (y+1) (x+1))/\¬ (bd h w g y (x+1)=-1/\bd h w g (y+1) (x+1)=-1))\/
   (((bd h w g y x=-1\/(L1.length:Int)<=bd h w g y x)/\(bd h w g y (x+1)=-1\/(L1.length:Int)<=bd h w g y (x+1))/\(bd h w g (y+1) x=-1\/(L1.length:Int)<=bd h w g (y+1) x)/\(bd h w g (y+1) (x+1)=-1\/(L1.length:Int)<=bd h w g (y+1) (x+1)))/\sC L1.length T2 (bd h w g y x) (bd h w g y (x+1)) (bd h w g (y+1) x) (bd h w g (y+1) (x+1))/\¬ (bd h w g y x=-1/\bd h w g (y+1) x=-1))\/
   ((bd h w g y x < L1.length/\bd h w g (y+1) x < L1.length/\(bd h w g y (x+1)=-1\/(L1.length:Int)<=bd h w g y (x+1))/\(bd h w g (y+1) (x+1)=-1\/(L1.length:Int)<=bd h w g (y+1) (x+1)))/\T1 (bd h w g y x) (-1) (bd h w g (y+1) x) (-1)/\sC L1.length T2 (-1) (bd h w g y (x+1)) (-1) (bd h w g (y+1) (x+1))/\(bd h w g y x=-1↔bd h w g y (x+1)=-1)/\(bd h w g (y+1) x=-1↔bd h w g (y+1) (x+1)=-1)):=λy x hy hx=>by
  rcases hs y x hy hx with ⟨t,n⟩ | ⟨t,n⟩ | ⟨t1,t2,e1,e2⟩
  ·obtain⟨f1,f2,f3,f4⟩:=F1 _ _ _ _ t
   exact .inl ⟨⟨f1.2,f2.2,f3.2,f4.2⟩,t,n⟩
  ·exact .inr (.inl ⟨BU F2 t,t,n⟩)
  ·obtain⟨f1,_,f3,_⟩:=F1 _ _ _ _ t1
   obtain⟨_,m2,_,m4⟩:=BU F2 t2
   exact .inr (.inr ⟨⟨f1.2,f3.2,m2,m4⟩,t1,t2,e1,e2⟩)
 have hv:∀y x,y+1 < h->x < w->(g y x < L1.length↔g (y+1) x < L1.length):=λy x hy hx=>by
  have q:=kind (y+1) (x+1) (by omega) (by omega)
  rw[fJ (by omega:y < h) hx,fJ hy hx] at q
  have a1:=pos y x (by omega) hx
  have a2:=pos (y+1) x hy hx
  rcases q with ⟨q,_⟩ | ⟨q,_⟩ | ⟨q,_⟩ <;> omega
 have hr:∀y x,y < h->x+1 < w->g y (x+1) < L1.length->g y x < L1.length:=λy x hy hx c=>by
  have q:=kind (y+1) (x+1) (by omega) (by omega)
  rw[fJ hy (by omega:x < w),fJ hy hx] at q
  have a1:=pos y x hy (by omega)
  have a2:=pos y (x+1) hy hx
  rcases q with ⟨q,_⟩ | ⟨q,_⟩ | ⟨q,_⟩ <;> omega
 have hcol:∀y x,y < h->x < w->(g 0 x < L1.length↔g y x < L1.length):=by
  intro y
  induction y with
  | zero=>exact λx _ _=>Iff.rfl
  | succ y ih=>exact λx hy hx=>(ih x (by omega) hx).trans (hv y x hy hx)
 have h0:g 0 0 < L1.length:=by
  have q:=kind 1 0 (by omega) (by omega)
  have o1:bd h w g 1 0=-1:=fy (by omega)
  have o2:bd h w g (1+1) 0=-1:=fy (by omega)
  have i1:bd h w g 1 (0+1)=g 0 0:=fJ (y:=0) (x:=0) (by omega) (by omega)
  have a1:=pos 0 0 (by omega) (by omega)
  rw[o1,o2,i1] at q
  rcases q with ⟨q,_⟩ | ⟨_,_,q⟩ | ⟨_,_,_,q,_⟩ <;> omega
 have h9:¬ g 0 (w - 1) < L1.length:=λc=>by
  have q:=kind 1 w (by omega) (by omega)
  have o1:bd h w g 1 (w+1)=-1:=fy (by omega)
  have o2:bd h w g (1+1) (w+1)=-1:=fy (by omega)
  have i1:bd h w g 1 w=g 0 (w - 1):=by
   have:=fJ (h:=h) (w:=w) (g:=g) (y:=0) (x:=w - 1) (by omega) (by omega)
   rwa [show w - 1+1=w by omega] at this
  have a1:=pos 0 (w - 1) (by omega) (by omega)
  rw[o1,o2,i1] at q
  rcases q with ⟨_,_,q⟩ | ⟨q,_⟩ | ⟨_,_,_,q,_⟩ <;> omega
 obtain⟨j,j1,j2,j3⟩:=turn (P:=λx=>g 0 x < L1.length) h0 h9
 have lo:∀y x,y < h->x<=j->g y x < L1.length:=λy x hy hx=>by
  refine (hcol y x hy (by omega)).mp ?_
  have:∀d,d<=j->g 0 (j - d) < L1.length:=by
   intro d
   induction d with
   | zero=>exact λ_=>j2
   | succ d ih=>
    intro hd
    have:=ih (by omega)
    rw[show j - d=j - (d+1)+1 by omega] at this
    exact hr 0 (j - (d+1)) (by omega) (by omega) this
  have:=this (j - x) (by omega)
  rwa [show j - (j - x)=x by omega] at this
 have up:∀y x,y < h->j < x->x < w->¬ g y x < L1.length:=λy x hy hx Vg=>by
  refine λq=>?_
  have q0:=(hcol y x hy Vg).mpr q
  have:∀d,j+1+d<=x->g 0 (x - d) < L1.length:=by
   intro d
   induction d with
   | zero=>exact λ_=>q0
   | succ d ih=>
    intro hd
    have:=ih (by omega)
    rw[show x - d=x - (d+1)+1 by omega] at this
    exact hr 0 (x - (d+1)) (by omega) (by omega) this
  have z:=this (x - (j+1)) (by omega)
  rw[show x - (x - (j+1))=j+1 by omega] at z
  exact j3 z
 have lo':∀y x,1<=y->y<=h->1<=x->x<=j+1->bd h w g y x < L1.length/\0<=bd h w g y x:=λy x h1 h2 h3 h4=>by
  obtain⟨y,rfl⟩:∃z,y=z+1:=⟨y - 1,by omega⟩
  obtain⟨x,rfl⟩:∃z,x=z+1:=⟨x - 1,by omega⟩
  rw[fJ (by omega) (by omega)]
  exact⟨lo y x (by omega) (by omega),pos y x (by omega) (by omega)⟩
 have up':∀y x,1<=y->y<=h->j+1 < x->x<=w->(L1.length:Int)<=bd h w g y x:=λy x h1 h2 h3 h4=>by
  obtain⟨y,rfl⟩:∃z,y=z+1:=⟨y - 1,by omega⟩
  obtain⟨x,rfl⟩:∃z,x=z+1:=⟨x - 1,by omega⟩
  rw[fJ (by omega) (by omega)]
  have:=up y x (by omega) (by omega) (by omega)
  omega
 have row:∀y,y<=h->∃y',(y'=y\/y'=y+1)/\1<=y'/\y'<=h:=λy hy=>by
  by_cases c:y=0
  ·exact⟨y+1,.inr rfl,by omega,by omega⟩
  ·exact⟨y,.inl rfl,by omega,hy⟩
 have seam:∀y,y<=h->T1 (bd h w g y (j+1)) (-1) (bd h w g (y+1) (j+1)) (-1)/\sC L1.length T2 (-1) (bd h w g y (j+1+1)) (-1) (bd h w g (y+1) (j+1+1)):=λy hy=>by
  obtain⟨y',e,r1,r2⟩:=row y hy
  have a1:=lo' y' (j+1) r1 r2 (by omega) (by omega)
  have a2:=up' y' (j+1+1) r1 r2 (by omega) (by omega)
  rcases kind y (j+1) hy (by omega) with ⟨q,_⟩ | ⟨q,_⟩ | ⟨_,t1,t2,_⟩
  ·rcases e with rfl | rfl <;> omega
  ·rcases e with rfl | rfl <;> omega
  ·exact⟨t1,t2⟩
 refine⟨j+1,by omega,by omega,⟨g,λy x hy hx=>?_,λy x hy hx=>?_⟩,DO (L1:=L1) (g:=λy x=>g y (j+1+x)) (λy x hy hx=>?_) F2 (λy x hy hx=>?_) λy x hy hx=>?_⟩
 ·obtain⟨i,h1,h2⟩:=hf y x hy (by omega)
  have:=lo y x hy (by omega)
  rw[zA8 (by omega)] at h2
  exact⟨i,h1,h2⟩
 ·have eL:∀y x,x<=j+1->bd h (j+1) g y x=bd h w g y x:=λy x hx=>by
   unfold bd
   by_cases c:1<=y/\y<=h/\1<=x/\x<=j+1
   ·rw[x4 c,x4 ⟨c.1,c.2.1,c.2.2.1,by omega⟩]
   ·rw[xL c,xL (by omega)]
  by_cases c:x=j+1
  ·subst c
   rw[eL y (j+1) (by omega),eL (y+1) (j+1) (by omega),fy (y:=y) (x:=j+1+1) (by omega),fy (y:=y+1) (x:=j+1+1) (by omega)]
   exact (seam y hy).1
  ·rw[eL _ _ (by omega),eL _ _ (by omega),eL _ _ (by omega),eL _ _ (by omega)]
   obtain⟨y',e,r1,r2⟩:=row y hy
   have a1:=lo' y' (x+1) r1 r2 (by omega) (by omega)
   rcases kind y x hy (by omega) with ⟨_,t,_⟩ | ⟨q,_⟩ | ⟨q,_⟩
   ·exact t
   ·rcases e with rfl | rfl <;> omega
   ·rcases e with rfl | rfl <;> omega
 ·obtain⟨i,h1,h2⟩:=hf y (j+1+x) hy (by omega)
  exact⟨i,h1,h2⟩
 ·have:=up y (j+1+x) hy (by omega) (by omega)
  show (L1.length:Int)<=g y (j+1+x)
  omega
 ·have eR:∀y x,bd h (w - (j+1)) (λy x=>g y (j+1+x)) y (x+1)=bd h w g y (j+1+(x+1)):=λy x=>by
   unfold bd
   dsimp only
   by_cases c:1<=y/\y<=h/\1<=x+1/\x+1<=w - (j+1)
   ·rw[x4 c,x4 ⟨c.1,c.2.1,by omega,by omega⟩,show j+1+(x+1 - 1)=j+1+(x+1) - 1 by omega]
   ·rw[xL c,xL (by omega)]
  by_cases c:x=0
  ·subst c
   rw[eR,eR,fy (y:=y) (x:=0) (by omega),fy (y:=y+1) (x:=0) (by omega)]
   exact (seam y hy).2
  ·obtain⟨x,rfl⟩:∃z,x=z+1:=⟨x - 1,by omega⟩
   rw[eR,eR,eR,eR]
   obtain⟨y',e,r1,r2⟩:=row y hy
   have a1:=up' y' (j+1+(x+1)) r1 r2 (by omega) (by omega)
   rcases kind y (j+1+(x+1)) hy (by omega) with ⟨q,_⟩ | ⟨_,t,_⟩ | ⟨q,_⟩
   ·rcases e with rfl | rfl <;> omega
   ·exact t
   ·rcases e with rfl | rfl <;> omega
theorem wV {L1 L2:List Nat}{T1 T2:Tp}{h w:Nat}{p:Nat->Nat->Nat}(hh:1<=h)(hw:1<=w)(F1:Fl L1.length T1)(F2:Fl L2.length T2):Lt (L1++L2) (sD L1.length T1 T2) h w p↔∃k,1<=k/\k < w/\Lt L1 T1 h k p/\Lt L2 T2 h (w - k) (λy x=>p y (k+x)):=
 ⟨Hg hh hw F1 F2,λ⟨k,h1,h2,h3,h4⟩=>oB hh h1 h2 h3 h4⟩
noncomputable def uJ (T:Tp):Tp:=λa b c d=>T a c b d
theorem K7 {n:Nat}{T:Tp}(F:Fl n T):Fl n (uJ T):=λa b c d t=>by
 obtain⟨h1,h2,h3,h4⟩:=F _ _ _ _ t
 exact⟨h1,h3,h2,h4⟩
theorem JB {L1 L2:List Nat}{T1 T2:Tp}{h w:Nat}{p:Nat->Nat->Nat}(hh:1<=h)(hw:1<=w)(F1:Fl L1.length T1)(F2:Fl L2.length T2):Lt (L1++L2) (uJ (sD L1.length (uJ T1) (uJ T2))) h w p↔∃k,1<=k/\k < h/\Lt L1 T1 k w p/\Lt L2 T2 (h - k) w (λy x=>p (k+y) x):=by
 have e:Lt (L1++L2) (uJ (sD L1.length (uJ T1) (uJ T2))) h w p↔Lt (L1++L2) (sD L1.length (uJ T1) (uJ T2)) w h (λy x=>p x y):=pP
 rw[e,wV hw hh (K7 F1) (K7 F2)]
 constructor
 ·rintro⟨k,h1,h2,h3,h4⟩
  exact⟨k,h1,h2,pP.mp h3,pP.mp h4⟩
 ·rintro⟨k,h1,h2,h3,h4⟩
  exact⟨k,h1,h2,pP.mpr h3,pP.mpr h4⟩
noncomputable def Pr (M:List (Nat × Nat))(f1 f2 f:Int):Prop:=(f1=-1/\f2=-1/\f=-1)\/∃k i j:Nat,f=k/\f1=i/\f2=j/\M[k]?=some (i,j)
noncomputable def Rc (M:List (Nat × Nat))(T1 T2:Tp):Tp:=λa b c d=>∃a1 b1 c1 d1 a2 b2 c2 d2,T1 a1 b1 c1 d1/\T2 a2 b2 c2 d2/\Pr M a1 a2 a/\Pr M b1 b2 b/\Pr M c1 c2 c/\Pr M d1 d2 d
structure O1 (M:List (Nat × Nat))(L L1 L2:List Nat):Prop where
 at_:∀k i j:Nat,M[k]?=some (i,j)->∃v:Nat,L1[i]?=some v/\L2[j]?=some v/\L[k]?=some v
 all:∀i j v:Nat,L1[i]?=some v->L2[j]?=some v->∃k:Nat,M[k]?=some (i,j)
 len:L.length=M.length
noncomputable def one (M:List (Nat × Nat))(z:Int):Int:=((M[z.toNat]?).map λq=>(q.1:Int)).getD 0
noncomputable def two (M:List (Nat × Nat))(z:Int):Int:=((M[z.toNat]?).map λq=>(q.2:Int)).getD 0
theorem oE {M:List (Nat × Nat)}{h w:Nat}{g:Nat->Nat->Int}(pos:∀y x,y < h->x < w->0<=g y x){y x:Nat}{f1 f2:Int}(H:Pr M f1 f2 (bd h w g y x)):f1=bd h w (λy x=>one M (g y x)) y x/\f2=bd h w (λy x=>two M (g y x)) y x:=by
 unfold bd at H ⊢
 dsimp only
 by_cases c:1<=y/\y<=h/\1<=x/\x<=w
 ·rw[x4 c] at H
  rw[x4 c,x4 c]
  have:=pos (y - 1) (x - 1) (by omega) (by omega)
  rcases H with ⟨_,_,e⟩ | ⟨k,i,j,e,rfl,rfl,e2⟩
  ·omega
  ·unfold one two
   rw[e,zAg,e2]
   exact⟨rfl,rfl⟩
 ·rw[xL c] at H
  rw[xL c,xL c]
  rcases H with ⟨h1,h2,_⟩ | ⟨k,i,j,e,_⟩
  ·exact⟨h1,h2⟩
  ·omega
theorem CQ {M:List (Nat × Nat)}{L L1 L2:List Nat}{T1 T2:Tp}{h w:Nat}{p:Nat->Nat->Nat}(B:O1 M L L1 L2):Lt L (Rc M T1 T2) h w p↔Lt L1 T1 h w p/\Lt L2 T2 h w p:=by
 constructor
 ·rintro⟨g,hf,hs⟩
  have pos:=qo hf
  have cell:∀y x,y < h->x < w->∃k i j:Nat,g y x=k/\M[k]?=some (i,j)/\L1[i]?=some (p y x)/\L2[j]?=some (p y x):=λy x hy hx=>by
   obtain⟨k,h1,h2⟩:=hf y x hy hx
   have hk:k < M.length:=by rw[←B.len]; exact (zAp.mp h2).1
   obtain⟨v,v1,v2,v3⟩:=B.at_ k M[k].1 M[k].2 (by rw[xI hk])
   rw[h2] at v3
   cases v3
   exact⟨k,_,_,h1,xI hk,v1,v2⟩
  constructor
  ·refine⟨λy x=>one M (g y x),λy x hy hx=>?_,λy x hy hx=>?_⟩
   ·obtain⟨k,i,j,e,e2,e3,_⟩:=cell y x hy hx
    refine⟨i,?_,e3⟩
    show one M (g y x)=_
    unfold one
    rw[e,zAg,e2]
    rfl
   ·obtain⟨a1,b1,c1,d1,a2,b2,c2,d2,t1,t2,q1,q2,q3,q4⟩:=hs y x hy hx
    rw[←(oE pos q1).1,←(oE pos q2).1,←(oE pos q3).1,←(oE pos q4).1]
    exact t1
  ·refine⟨λy x=>two M (g y x),λy x hy hx=>?_,λy x hy hx=>?_⟩
   ·obtain⟨k,i,j,e,e2,_,e4⟩:=cell y x hy hx
    refine⟨j,?_,e4⟩
    show two M (g y x)=_
    unfold two
    rw[e,zAg,e2]
    rfl
   ·obtain⟨a1,b1,c1,d1,a2,b2,c2,d2,t1,t2,q1,q2,q3,q4⟩:=hs y x hy hx
    rw[←(oE pos q1).2,←(oE pos q2).2,←(oE pos q3).2,←(oE pos q4).2]
    exact t2
 ·rintro⟨⟨g1,f1,s1⟩,g2,f2,s2⟩
  have cell:∀y x,∃z:Int,y < h->x < w->∃k i j:Nat,z=k/\g1 y x=i/\g2 y x=j/\M[k]?=some (i,j)/\L[k]?=some (p y x):=λy x=>by
   by_cases c:y < h/\x < w
   ·obtain⟨i,i1,i2⟩:=f1 y x c.1 c.2
    obtain⟨j,j1,j2⟩:=f2 y x c.1 c.2
    obtain⟨k,hk⟩:=B.all i j _ i2 j2
    obtain⟨v,v1,_,v3⟩:=B.at_ k i j hk
    rw[i2] at v1
    cases v1
    exact⟨k,λ_ _=>⟨k,i,j,rfl,i1,j1,hk,v3⟩⟩
   ·exact⟨0,λh1 h2=>absurd ⟨h1,h2⟩ c⟩
  have ch:∃g:Nat->Nat->Int,∀y x,y < h->x < w->∃k i j:Nat,g y x=k/\g1 y x=i/\g2 y x=j/\M[k]?=some (i,j)/\L[k]?=some (p y x):=⟨λy x=>Classical.choose (cell y x),λy x=>Classical.choose_spec (cell y x)⟩
  obtain⟨g,hg⟩:=ch
  have pr:∀y x,Pr M (bd h w g1 y x) (bd h w g2 y x) (bd h w g y x):=λy x=>by
   unfold bd
   by_cases c:1<=y/\y<=h/\1<=x/\x<=w
   ·rw[x4 c,x4 c,x4 c]
    obtain⟨k,i,j,e1,e2,e3,e4,_⟩:=hg (y - 1) (x - 1) (by omega) (by omega)
    exact .inr ⟨k,i,j,e1,e2,e3,e4⟩
   ·rw[xL c,xL c,xL c]
    exact .inl ⟨rfl,rfl,rfl⟩
  refine⟨g,λy x hy hx=>?_,λy x hy hx=>⟨_,_,_,_,_,_,_,_,s1 y x hy hx,s2 y x hy hx,pr _ _,pr _ _,pr _ _,pr _ _⟩⟩
  obtain⟨k,i,j,e1,_,_,_,e5⟩:=hg y x hy hx
  exact⟨k,e1,e5⟩
open PySem PySem.Spec PyProof.Rows L2 TB
section
variable {K:zzA}
theorem cP {H:Hp}{F a:Addr}{xs ys:List V}{o:HO}(h:aJ K H a xs)(hF:H F=some (.lst ys)):aJ K (upd H F o) a xs:=mS (by rw[hF]; exact True.intro) h
noncomputable def LT (K:zzA)(H:Hp)(F:Addr)(cs:zzB):Prop:=∃qs:zzD,H F=some (.lst (qs.map rv))/\(∀q∈qs,aJ K H q.1 (q.2.map V.int))/\qs.map (·.2)=cs
section
variable {H H':Hp}{F c:Addr}{cs:zzB}
theorem LT.same (h:LT K H F cs)(s:ai H H'):LT K H' F cs:=let ⟨qs,h1,h2,h3⟩:=h; ⟨qs,s _ _ h1,λq hq=>s.tup (h2 q hq),h3⟩
theorem LT.snoc {d:List Int}{ws:List V}(h:LT K H F cs)(hc:aJ K H c (d.map V.int))(hw:H F=some (.lst ws)):LT K (upd H F (.lst (ws++[.ref c]))) F (cs++[d]):=by
 obtain⟨qs,h1,h2,h3⟩:=h
 have e:ws=qs.map rv:=by rw[hw] at h1; cases h1; rfl
 refine⟨qs++[(c,d)],by rw[aA,e,v4]; rfl,λq hq=>?_,by rw[v4,h3]; rfl⟩
 rcases wT.mp hq with z | z
 ·exact cP (h2 q z) hw
 ·rw[w8.mp z]
  exact cP hc hw
theorem LT.rep (h:LT K H F cs):Rep K H (.lst (cs.map tupI)) (.ref F):=by
 obtain⟨qs,h1,h2,rfl⟩:=h
 unfold Rep
 exact⟨F,_,rfl,aD.of h1,rQ qs h2⟩
theorem j7 {qs:zzD}{i:Nat}{v:V}(h:(qs.map rv)[i]?=some v):∃q∈qs,v=.ref q.1/\(qs.map (·.2))[i]?=some q.2:=by
 rw[wP] at h
 cases e:qs[i]? with
 | none=>rw[e] at h; cases h
 | some q=>
  rw[e] at h
  refine⟨q,zAj e,(zAh h).symm,by rw[wP,e]; rfl⟩
end
theorem BV:∀x:List Int,fC (x.map Dt.int)=true
 | []=>rfl
 | _::x=>by show (true&&fC (x.map Dt.int))=true; rw[BV x]; rfl
theorem DP:∀x:List Int,fj (x.map Dt.int)=0
 | []=>rfl
 | _::x=>by show max 0 (fj (x.map Dt.int))=0; rw[DP x]; rfl
theorem pQ (x:List Int):fV (tupI x)=true:=BV x
theorem JC {x y:List Int}(h:tupI x=tupI y):x=y:=by
 unfold tupI at h
 exact List.map_inj_right (λ_ _ e=>Dt.int.inj e) |>.mp (Dt.tup.inj h)
theorem Hh {tt:TT}{ts us:TS}{D:Ends}{σ:L2.St}{H:Hp}{b:Bool}(R:L2.St->Hp->Prop)(h:Gt tt σ H b)(k1:b=true->∀H',ai H H'->∀nx:L2.St->Hp->Prop,(∀σ H,R σ H->nx σ H)->ts { D with nx:=nx } σ H')
  (k0:b=false->∀H',ai H H'->R σ H') (k:∀σ H,R σ H->us D σ H):iW (Ep tt ts Eo) us D σ H:=wg h (λc H1 s1=>k1 c H1 s1 (us D) k) λc H1 s1=>k _ _ (k0 c H1 s1)
theorem DQ {ta:TE}{g:TG}{tb:TS}{D:Ends}{σ:L2.St}{H:Hp}{a:Addr}{xs:List V}(h:Gv ta σ H (.ref a))(hq:aD K H a xs)(Pv:Nat->L2.St->Hp->Prop)(h0:∀H',ai H H'->Pv 0 σ H')(hl:∀i σ H,Pv i σ H->aD K H a xs)
  (hs:∀i x σ H,xs[i]?=some x->Pv i σ H->g x σ H fun σ2 H2=>tb { D with nx:=Pv (i+1),ct:=Pv (i+1),bk:=D.nx } σ2 H2) (hd:∀σ H,Pv xs.length σ H->D.nx σ H):oX (jO K ta) g tb D σ H:=
 h _ λH' s=>⟨a,rfl,⟨xs,s.seq hq⟩,AO Pv (h0 H' s) (λi σ H _ p=>hl i σ H p) hs hd⟩
theorem mT {ta:TE}{g:TG}{tb us:TS}{D:Ends}{σ:L2.St}{H:Hp}{a:Addr}{xs:List V}(h:Gv ta σ H (.ref a))(hq:aD K H a xs)(Pv:Nat->L2.St->Hp->Prop)(h0:∀H',ai H H'->Pv 0 σ H')(hl:∀i σ H,Pv i σ H->aD K H a xs)
  (hs:∀i x σ H,xs[i]?=some x->Pv i σ H->g x σ H fun σ2 H2=>tb { D with nx:=Pv (i+1),ct:=Pv (i+1),bk:=us D } σ2 H2) (hd:∀σ H,Pv xs.length σ H->us D σ H):iW (oX (jO K ta) g tb) us D σ H:=DQ (D:={ D with nx:=us D }) h hq Pv h0 hl hs hd
theorem BW {ix:List (Option Nat)}{g:TG}{tf:TT}{te ta:TE}{us:TS}{D:Ends}{σ:L2.St}{H:Hp}{n:Nat}{a:Addr}{xs:List V}(h:Gv ta σ H (.ref a))(hq:aD K H a xs)(k:∀H',ai H H'->aD K H' a xs->dP (rB K a) ix g tf te σ H' λD' H2=>us D (σ.set n (some (.ref D'))) H2):iW (m9 n (jO K ta) ix g tf te) us D σ H:=Ob (D:={ D with nx:=us D }) h hq k
noncomputable def Gl (K:zzA)(te:TE)(σ:L2.St)(H:Hp)(cs:zzB):Prop:=∀R:VK,(∀p H',H p=none->ai H H'->LT K H' p cs->R (.ref p) H')->te σ H R
noncomputable def Gk (K:zzA)(te:TE)(σ:L2.St)(H:Hp)(cs:zzB):Prop:=∀R:VK,(∀p H',ai H H'->LT K H' p cs->R (.ref p) H')->te σ H R
section
variable {σ:L2.St}{H:Hp}{ta tb te:TE}{cs ds:zzB}{a:Addr}{ix:List (Option Nat)}{g:TG}{tf:TT}{E:XK}
theorem K8 (h:Gl K te σ H cs)(e:cs=ds):Gl K te σ H ds:=e ▸ h
theorem mJ {R:VK}(h:Gl K te σ H cs)(e:cs=ds)(r:∀p H',H p=none->ai H H'->LT K H' p ds->R (.ref p) H'):te σ H R:=(e ▸ h) R r
theorem Gl.k (h:Gl K te σ H cs):Gk K te σ H cs:=λR r=>h R λp H' _ s l=>r p H' s l
theorem kF (h:Gv te σ H (.ref a))(t:LT K H a cs):Gk K te σ H cs:=λR r=>h R λH' s=>r a H' s (t.same s)
theorem mU (h:Gv ta σ H (.ref a))(hT:LT K H a cs)(hz:cs.length<=100000)(b:List Int->Bool)(f:List Int->List Int)
  (hs:∀(c:List Int) (q:Addr) (H':Hp) (R1:VK) (R0:Hp->Prop),c∈cs->ai H H'->aJ K H' q (c.map V.int)->(b c=true->∀p H6,ai H' H6->aJ K H6 p ((f c).map V.int)->R1 (.ref p) H6)->(b c=false->∀H5,ai H' H5->R0 H5)->
   g (.ref q) (cN ix σ) H' fun σ4 H4=>tf σ4 H4 λb H5=>if b=true then te σ4 H5 R1 else R0 H5):Gl K (jR (jO K ta) ix g tf te) σ H ((cs.filter b).map f):=by
 intro R r
 obtain⟨qs,h1,h2,h3⟩:=hT
 refine jS (K:=K) h (aD.of h1) λH1 s1 hq1=>?_
 have hl:qs.length=cs.length:=by rw[←h3,y3]
 refine lq hq1 (by rw[y3,zAk]; omega) (λi ys H3=>∃rs:zzD,ys=rs.map rv/\rs.map (·.2)=((cs.take i).filter b).map f/\∀q∈rs,aJ K H3 q.1 (q.2.map V.int)) (λD hD=>⟨[],rfl,rfl,λ_ hq=>absurd hq (by simp)⟩) (λD i v ys H3 R1 R0 hD hv s3 aV hP k1 k0=>?_) λD ys H3 hD s3 aV hl3 hP=>?_
 ·obtain⟨q,lV,rfl,cD⟩:=j7 hv
  rw[h3] at cD
  obtain⟨rs,rfl,hr2,hr3⟩:=hP
  refine hs q.2 q.1 H3 R1 R0 (zAj cD) (s1.trans s3) ((s1.trans s3).tup (h2 q lV)) (λc p H6 s6 hp=>k1 _ _ s6 ⟨rs++[(p,f q.2)],by rw[v4]; rfl,?_,λu hu=>?_⟩) λc H5 s5=>k0 _ s5 ⟨rs,rfl,?_,λu hu=>s5.tup (hr3 u hu)⟩
  ·rw[v4,hr2,zBv,cD,zDa,v4]
   simp [c]
  ·rcases wT.mp hu with z | z
   ·exact cP (s6.tup (hr3 u z)) (s6 _ _ aV)
   ·rw[w8.mp z]
    exact cP hp (s6 _ _ aV)
  ·rw[hr2,zBv,cD,zDa,v4]
   simp [c]
 ·obtain⟨rs,rfl,hr2,hr3⟩:=hP
  refine r D H3 (s1.free hD) (s1.trans s3) ⟨rs,aV,hr3,?_⟩
  rw[hr2,y3,hl,zBb]
theorem BX (h:Gv ta σ H (.ref a))(hT:LT K H a cs)(hz:cs.length<=100000)(f:List Int->List Int)
  (hs:∀(c:List Int) (q:Addr) (H':Hp) (R1:VK),c∈cs->ai H H'->aJ K H' q (c.map V.int)->(∀p H6,ai H' H6->aJ K H6 p ((f c).map V.int)->R1 (.ref p) H6)->g (.ref q) (cN ix σ) H' fun σ4 H4=>te σ4 H4 R1):Gl K (jR (jO K ta) ix g kq te) σ H (cs.map f):=by
 have:=mU (ix:=ix) (g:=g) (tf:=kq) (te:=te) h hT hz (λ_=>true) f λc q H' R1 R0 hc s hq k1 _=>by
  have e:(λ(σ4:L2.St) (H4:Hp)=>kq σ4 H4 λb H5=>if b=true then te σ4 H5 R1 else R0 H5)=fun σ4 H4=>te σ4 H4 R1:=by
   funext σ4 H4
   show (if true=true then te σ4 H4 R1 else R0 H4)=te σ4 H4 R1
   rw[x4 rfl]
  rw[e]
  exact hs c q H' R1 hc s hq (k1 rfl)
 rwa [List.filter_eq_self.mpr λ_ _=>rfl] at this
noncomputable def JD (K:zzA)(ok:zzB->Prop)(f:zzB->zzB):Sp:=λvs H Q _=>∃a cs,vs=[.ref a]/\LT K H a cs/\ok cs/\∀p H',H p=none->ai H H'->LT K H' p (f cs)->Q (.ref p) H'
noncomputable def JE (K:zzA)(ok:zzB->Prop)(f:zzB->zzB->zzB):Sp:=λvs H Q _=>∃a b cs ds,vs=[.ref a,.ref b]/\LT K H a cs/\LT K H b ds/\ok cs/\ok ds/\∀p H',H p=none->ai H H'->LT K H' p (f cs ds)->Q (.ref p) H'
theorem nG {ok:zzB->Prop}{f:zzB->zzB}(h:Gk K ta σ H cs)(hk:ok cs):Gl K (gS (JD K ok f) [] E (bE ta cM)) σ H (f cs):=λR r=>h _ λp H1 s1 t=>⟨p,cs,rfl,t,hk,λp2 H2 n2 s2 l2=>r p2 H2 (s1.free n2) (s1.trans s2) l2⟩
theorem vq {ok:zzB->Prop}{f:zzB->zzB->zzB}(h:Gk K ta σ H cs)(g:∀H',ai H H'->Gk K tb σ H' ds)(hk:ok cs)(hd:ok ds):Gl K (gS (JE K ok f) [] E (bE ta (bE tb cM))) σ H (f cs ds):=λR r=>h _ λp H1 s1 t=>g H1 s1 _ λq H2 s2 t2=>⟨p,q,cs,ds,rfl,t.same s2,t2,hk,hd,λp2 H3 n3 s3 l3=>r p2 H3 ((s1.trans s2).free n3) ((s1.trans s2).trans s3) l3⟩
theorem BY (ha:Gk K ta σ H cs)(hb:∀H',ai H H'->Gk K tb σ H' ds)(hz:cs.length+ds.length<=100000):Gl K (di EI ta tb) σ H (cs++ds):=λR r=>ha _ λa H1 s1 t1=>hb H1 s1 _ λb H2 s2 t2=>by
 obtain⟨qs,g1,g2,g3⟩:=t1.same s2
 obtain⟨rs,k1,k2,k3⟩:=id t2
 have l1:qs.length=cs.length:=by rw[←g3,y3]
 have l2:rs.length=ds.length:=by rw[←k3,y3]
 refine⟨a,b,qs.map rv,rs.map rv,rfl,rfl,g1,k1,by rw[y3,y3,zAk]; omega,λq hq=>r q _ ((s1.trans s2).free hq) ((s1.trans s2).trans (ai.new hq _)) ⟨qs++rs,by rw[aA,v4],λu hu=>(ai.new hq _).tup ?_,by rw[v4,g3,k3]⟩⟩
 rcases wT.mp hu with z | z
 ·exact g2 u z
 ·exact k2 u z
theorem wW {x y:List Int}(neg:Bool)(h:Gw K ta σ H (x.map V.int))(g:∀H',ai H H'->Gw K tb σ H' (y.map V.int)):Gv (di (Bj K neg) ta tb) σ H (.bl (neg ^^ decide (x=y))):=λR r=>h _ λp H1 s1 t1=>g H1 s1 _ λq H2 s2 t2=>by
 have e:eqv (tupI x).py (tupI y).py=decide (x=y):=by
  have:=EY (tupI x) (tupI y) (pQ x) (pQ y)
  by_cases c:x=y
  ·rw[zAm c]; exact this.mpr (by rw[c])
  ·rw[zAv c]
   cases z:eqv (tupI x).py (tupI y).py with
   | false=>rfl
   | true=>exact absurd (JC (this.mp z)) c
 refine⟨tupI x,tupI y,?_,fY.mpr ⟨p,rfl,s2.tup t1⟩,fY.mpr ⟨q,rfl,t2⟩,?_⟩
 ·exact⟨tQ _ (pQ x),tQ _ (pQ y),by rw[xS _ (pQ x)]; have:=DP x; show min (fj (x.map Dt.int)+1) _<=60; omega⟩
 ·rw[e]; exact r H2 (s1.trans s2)
end
end
set_option maxHeartbeats 1000000
section
variable {P:Program}{w:World}{K:zzA}{mg:Str->Option Value}{base:Heap}{t:Ad}
noncomputable def dO (K:zzA)(H:Hp)(a:Addr)(x:Str)(ts:zzB):Prop:=∃T,aJ K H a [.str x,.ref T]/\LT K H T ts
theorem dO.same {H H':Hp}{a:Addr}{x:Str}{ts:zzB}(h:dO K H a x ts)(s:ai H H'):dO K H' a x ts:=let ⟨T,h1,h2⟩:=h; ⟨T,s.tup h1,h2.same s⟩
theorem dO.sys {H:Hp}{a:Addr}{x:Str}{ts:zzB}(h:dO K H a x ts):KQ K H a x ts:=let ⟨T,h1,h2⟩:=h; ⟨T,h1,h2.rep⟩
structure Sg (x:Str)(ts:zzB):Prop where
 Tw:OT x ts
 ok:vn x ts=true
noncomputable def JF (K:zzA):Sp:=λvs H Q _=>∃(a:Addr) (x:Str) (ts:zzB),vs=[.ref a]/\dO K H a x ts/\Sg x ts/\∀H',ai H H'->Q .bq H'
theorem x_:aQ ["system"] ["system"] (aI gn):=⟨rfl,rfl,rfl,by decide +kernel,rfl,by decide +kernel,by decide +kernel⟩
theorem iO (T:Txt K mg t):bx P w K mg base cA 3 t.qC t.jl ["system"] (JF K):=by
 have CS:=BK (P:=P) (w:=w) (base:=base) T
 refine T.gJ.fn.ok x_ (λvs H Q E h=>?_) (λcdv A outer s H vs Q E hr h=>?_)
 ·obtain⟨a,x,ts,rfl,_⟩:=h
  rfl
 obtain⟨a,x,ts,rfl,hA,hG,k⟩:=h
 refine⟨_,(aB (fX (AI (jN (aq T.zm CS (hr.mono (by first | decide | omega)) aL (aa (pv 0) ah)))) (aB AK) dw)),?_⟩
 refine i8 (b:=false) (gT (Bb (iH (iI (aC (af (by rfl))) λH1 R' s1 k1=>⟨a,x,ts,rfl,(hA.same s1).sys,hG.Tw,k1⟩))) (by rw[hG.ok]; rfl)) (λc=>absurd c (by decide)) λc H1 s1=>k H1 s1
noncomputable def O6:Sp:=λvs H Q _=>∃n:Int,vs=[.int n]/\n<=16/\∀H',ai H H'->Q .bq H'
theorem vt:aQ ["marks"] ["marks"] (aI fk):=⟨rfl,rfl,rfl,by decide +kernel,rfl,by decide +kernel,by decide +kernel⟩
theorem gb (T:Txt K mg t):bx P w K mg base cA 1 t.nZ t.gU ["marks"] O6:=by
 refine T.gA.fn.ok vt (λvs H Q E h=>?_) (λcdv A outer s H vs Q E hr h=>?_)
 ·obtain⟨n,rfl,_⟩:=h
  rfl
 obtain⟨n,rfl,hn,k⟩:=h
 refine⟨_,(aB (fX (cG Kh (pv 0) (c8 rfl T.r_ T.sf) (cj _)) (aB AK) dw)),?_⟩
 exact i8 (b:=false) (gT (dZ (aS (af (by rfl)) λ_ _=>ao)) (zAv (by omega))) (λc=>absurd c (by decide)) λc H1 s1=>k H1 s1
noncomputable def O7 (K:zzA):Sp:=λvs H Q _=>∃(a b:Addr) (x y:Str) (ts us:zzB),vs=[.ref a,.ref b]/\dO K H a x ts/\Sg x ts/\dO K H b y us/\Sg y us/\∀H',ai H H'->Q .bq H'
theorem BZ:aQ ["one","other"] ["one","other"] (aI i_):=⟨rfl,rfl,rfl,by decide +kernel,rfl,by decide +kernel,by decide +kernel⟩
theorem j8 (T:Txt K mg t):bx P w K mg base cA 4 t.uw t.kO ["one","other"] (O7 K):=by
 have cU:=iO (P:=P) (w:=w) (base:=base) T
 refine T.look_both.fn.ok BZ (λvs H Q E h=>?_) (λcdv A outer s H vs Q E hr h=>?_)
 ·obtain⟨a,b,x,y,ts,us,rfl,_⟩:=h
  rfl
 obtain⟨a,b,x,y,ts,us,rfl,hA,hM,hB,hN,k⟩:=h
 refine⟨_,(ak (bw (aq T.gJ cU (hr.mono (by first | decide | omega)) aL (aa (pv 0) ah))) (aB (bw (aq T.gJ cU (hr.mono (by first | decide | omega)) aL (aa (pv 1) ah))))),?_⟩
 refine d8 (bL (aC (af (by rfl))) λH1 s1=>⟨a,x,ts,rfl,hA.same s1,hM,λH2 s2=>?_⟩)
 have s02:=s1.trans s2
 exact jC (bL (aC (af (by rfl))) λH3 s3=>⟨b,y,us,rfl,hB.same (s02.trans s3),hN,λH4 s4=>k H4 ((s02.trans s3).trans s4)⟩)
noncomputable def O8:Sp:=λvs H Q _=>∃(f:Int) (n:Nat),vs=[.int f,.int n]/\∀H',ai H H'->Q (.int (mv n f)) H'
theorem ya:aQ ["field","by"] ["field","by"] (aI gp):=⟨rfl,rfl,rfl,by decide +kernel,rfl,by decide +kernel,by decide +kernel⟩
theorem yd (T:Txt K mg t):bx P w K mg base cA 1 t.qD t.jn ["field","by"] O8:=by
 refine T.uE.fn.ok ya (λvs H Q E h=>?_) (λcdv A outer s H vs Q E hr h=>?_)
 ·obtain⟨f,n,rfl,_⟩:=h
  rfl
 obtain⟨f,n,rfl,k⟩:=h
 refine⟨_,(aB (aX (uV (cG jP (pv 0) (c8 rfl T.ku T.kB) (cj _)) (pv 0) (av aP (pv 0) (pv 1))))),?_⟩
 refine dJ (v:=.int (mv n f)) (Ks (p:=decide (f=-1)) (gT (dZ (i7 (af (by rfl)) (λ_ _=>ao) (by rfl))) (by simp)) (λc H1 s1=>?_) λc H1 s1=>?_) λH1 s1=>k H1 s1
 ·have:=zAt c
  exact bA (af (by rfl)) (by unfold mv; rw[x4 this,this])
 ·have:=of_decide_eq_false c
  exact bA (aS (af (by rfl)) λ_ _=>af (by rfl)) (by unfold mv; rw[xL this])
abbrev jE (cs:zzB):Prop:=(∀c∈cs,c.length=4)/\cs.length<=9000
noncomputable def Hi (K:zzA):Sp:=λvs H Q _=>∃a cs,∃n:Nat,vs=[.ref a,.int n]/\LT K H a cs/\jE cs/\∀p H',H p=none->ai H H'->LT K H' p (cs.map λc=>c.map (mv n))->Q (.ref p) H'
theorem yf:aQ ["tiles","by"] ["tiles","by"] (aI gq):=⟨rfl,rfl,rfl,by decide +kernel,rfl,by decide +kernel,by decide +kernel⟩
theorem kG (T:Txt K mg t):bx P w K mg base cA 2 t.qE t.jo ["tiles","by"] (Hi K):=by
 have z_:=yd (P:=P) (w:=w) (base:=base) T
 refine T.kW.fn.ok yf (λvs H Q E h=>?_) (λcdv A outer s H vs Q E hr h=>?_)
 ·obtain⟨a,cs,n,rfl,_⟩:=h
  rfl
 obtain⟨a,cs,n,rfl,hT,hk,k⟩:=h
 refine⟨_,(aB (aX (bz (N':=["tile","by"]) (ix:=[none,some 1]) (aK (by kernel_rfl)) rfl (bN K (pv 0)) (λ_ _ _ _=>(aE (i:=0) (show List.Nodup (["tile","by"]:List Str) from by decide +kernel) rfl (by first | exact Or.inl rfl | exact Or.inr rfl))) (λ_ _ _ _=>bJ) (λ_ _ _ _=>(eZ (wA K) (by rfl) T.tV boot_tuple (aa (bz (N':=["field","by"]) (ix:=[none,some 1]) (aK (by kernel_rfl)) rfl (Aj K (pv 0)) (λ_ _ _ _=>(aE (i:=0) (show List.Nodup (["field","by"]:List Str) from by decide +kernel) rfl (by first | exact Or.inl rfl | exact Or.inr rfl))) (λ_ _ _ _=>bJ) (λ_ _ _ _=>(aq T.uE z_ (hr.mono (by first | decide | omega)) aL (aa (pv 0) (aa (pv 1) ah))))) ah)))))),?_⟩
 refine b9 (mJ (BX (af (by rfl)) hT (by have:=hk.2; omega) (λc=>c.map (mv n)) λc q H1 R1 hc s1 hq k1=>?_) rfl k)
 have h4:=hk.1 c hc
 dsimp only [bC]
 refine ng (Bm (K:=K) (af (by rfl)) hq λH2 s2 hq2=>nt (KP λf=>.int (mv n f)) hq2 (small (by rw[y3]; omega)) (λi x H3 R3 hx s3 k3=>?_) λD H3 hD s3 aV=>?_)
 ·obtain⟨f,rfl,_,_⟩:=kE hx
  exact dh (iI (au (af (by rfl)) λ_ _=>aC (af (by rfl))) λH4 R4 s4 k4=>⟨f,n,rfl,k4⟩) λH4 s4=>k3 H4 s4
 ·rw[x8] at aV
  exact⟨D,c.map (λf=>V.int (mv n f)),rfl,.inl ⟨aD.of aV,λl hl=>k1 l _ (s2.trans (s3.trans (ai.new hl _))) (by rw[zAy]; exact aJ.of aA)⟩⟩
noncomputable def qM:List Int->List Int
 | [a,b,c,d]=>[b,a,d,c]
 | l=>l
noncomputable def iU:List Int->List Int
 | [a,b,c,d]=>[a,c,b,d]
 | l=>l
theorem ug:aQ ["tiles"] ["tiles"] (aI ee):=⟨rfl,rfl,rfl,by decide +kernel,rfl,by decide +kernel,by decide +kernel⟩
theorem uh (T:Txt K mg t):bx P w K mg base cA 1 t.nB t.f9 ["tiles"] (JD K jE (List.map qM)):=by
 refine T.pM.fn.ok ug (λvs H Q E h=>?_) (λcdv Ar outer sh H vs Q E hr h=>?_)
 ·obtain⟨a,cs,rfl,_⟩:=h
  rfl
 obtain⟨a,cs,rfl,hT,hk,k⟩:=h
 refine⟨_,(aB (aX (bz (N':=["left","right","low_left","low_right"]) (ix:=[none,none,none,none]) (aK (by kernel_rfl)) rfl (bN K (pv 0)) (λ_ _ _ _=>(wm K (n:=4) (cL (aE (i:=0) (show List.Nodup (["left","right","low_left","low_right"]:List Str) from by decide +kernel) rfl (by first | exact Or.inl rfl | exact Or.inr rfl)) (cL (aE (i:=1) (show List.Nodup (["left","right","low_left","low_right"]:List Str) from by decide +kernel) rfl (by first | exact Or.inl rfl | exact Or.inr rfl)) (cL (aE (i:=2) (show List.Nodup (["left","right","low_left","low_right"]:List Str) from by decide +kernel) rfl (by first | exact Or.inl rfl | exact Or.inr rfl)) (cL (aE (i:=3) (show List.Nodup (["left","right","low_left","low_right"]:List Str) from by decide +kernel) rfl (by first | exact Or.inl rfl | exact Or.inr rfl)) o7)))))) (λ_ _ _ _=>bJ) (λ_ _ _ _=>(bP (aa (pv 1) (aa (pv 0) (aa (pv 3) (aa (pv 2) ah))))))))),?_⟩
 refine b9 (mJ (BX (af (by rfl)) hT (by have:=hk.2; omega) qM λc q H1 R1 hc s1 hq k1=>?_) rfl k)
 match c,hk.1 c hc with
 | [a,b,c,d],_=>
  refine⟨q,_,rfl,hq,rfl,.int a,_,rfl,.int b,_,rfl,.int c,_,rfl,.int d,_,rfl,rfl,?_⟩
  show uY _ _ _ _
  exact dN (K:=K) (au (af (by rfl)) λ_ _=>au (af (by rfl)) λ_ _=>au (af (by rfl)) λ_ _=>aC (af (by rfl))) (by show 4<=sizeLine; decide) _ λp H2 s2 hp=>k1 p H2 s2 hp
theorem yg:aQ ["tiles"] ["tiles"] (aI gr):=⟨rfl,rfl,rfl,by decide +kernel,rfl,by decide +kernel,by decide +kernel⟩
theorem pR (T:Txt K mg t):bx P w K mg base cA 1 t.qF t.jq ["tiles"] (JD K jE (List.map iU)):=by
 refine T.jf.fn.ok yg (λvs H Q E h=>?_) (λcdv Ar outer sh H vs Q E hr h=>?_)
 ·obtain⟨a,cs,rfl,_⟩:=h
  rfl
 obtain⟨a,cs,rfl,hT,hk,k⟩:=h
 refine⟨_,(aB (aX (bz (N':=["left","right","low_left","low_right"]) (ix:=[none,none,none,none]) (aK (by kernel_rfl)) rfl (bN K (pv 0)) (λ_ _ _ _=>(wm K (n:=4) (cL (aE (i:=0) (show List.Nodup (["left","right","low_left","low_right"]:List Str) from by decide +kernel) rfl (by first | exact Or.inl rfl | exact Or.inr rfl)) (cL (aE (i:=1) (show List.Nodup (["left","right","low_left","low_right"]:List Str) from by decide +kernel) rfl (by first | exact Or.inl rfl | exact Or.inr rfl)) (cL (aE (i:=2) (show List.Nodup (["left","right","low_left","low_right"]:List Str) from by decide +kernel) rfl (by first | exact Or.inl rfl | exact Or.inr rfl)) (cL (aE (i:=3) (show List.Nodup (["left","right","low_left","low_right"]:List Str) from by decide +kernel) rfl (by first | exact Or.inl rfl | exact Or.inr rfl)) o7)))))) (λ_ _ _ _=>bJ) (λ_ _ _ _=>(bP (aa (pv 0) (aa (pv 2) (aa (pv 1) (aa (pv 3) ah))))))))),?_⟩
 refine b9 (mJ (BX (af (by rfl)) hT (by have:=hk.2; omega) iU λc q H1 R1 hc s1 hq k1=>?_) rfl k)
 match c,hk.1 c hc with
 | [a,b,c,d],_=>
  refine⟨q,_,rfl,hq,rfl,.int a,_,rfl,.int b,_,rfl,.int c,_,rfl,.int d,_,rfl,rfl,?_⟩
  show uY _ _ _ _
  exact dN (K:=K) (au (af (by rfl)) λ_ _=>au (af (by rfl)) λ_ _=>au (af (by rfl)) λ_ _=>aC (af (by rfl))) (by show 4<=sizeLine; decide) _ λp H2 s2 hp=>k1 p H2 s2 hp
noncomputable def O9 (K:zzA)(n:Nat)(f:List Int->List Int):Sp:=λvs H Q _=>∃a c,vs=[.ref a]/\aJ K H a (c.map V.int)/\c.length=n/\∀p H',ai H H'->aJ K H' p ((f c).map V.int)->Q (.ref p) H'
theorem mV {σ:L2.St}{H:Hp}{ta:TE}{E:XK}{n:Nat}{f:List Int->List Int}{c:List Int}(h:Gw K ta σ H (c.map V.int))(hc:c.length=n):Gw K (gS (O9 K n f) [] E (bE ta cM)) σ H ((f c).map V.int):=λR r=>h _ λp H1 s1 hp=>⟨p,c,rfl,hp,hc,λq H2 s2 hq=>r q H2 (s1.trans s2) hq⟩
noncomputable def fW:List Int->List Int
 | [a,_,c,_]=>[a,c]
 | l=>l
noncomputable def gC:List Int->List Int
 | [_,b,_,d]=>[b,d]
 | l=>l
theorem Fe:aQ ["tile"] ["tile"] (aI lE):=⟨rfl,rfl,rfl,by decide +kernel,rfl,by decide +kernel,by decide +kernel⟩
theorem wX (T:Txt K mg t):bx P w K mg base cA 1 t.zh t.om ["tile"] (O9 K 4 fW):=by
 refine T.tT.fn.ok Fe (λvs H Q E h=>?_) (λcdv Ar outer sh H vs Q E hr h=>?_)
 ·obtain⟨a,c,rfl,_⟩:=h
  rfl
 obtain⟨a,c,rfl,hq,h4,k⟩:=h
 refine⟨_,(aB (aX (bP (aa (aH (bg K) (pv 0) aj (λ_ _=>rfl)) (aa (aH (bg K) (pv 0) aj (λ_ _=>rfl)) ah))))),?_⟩
 match c,h4 with
 | [f,g,h,i],_=>exact b9 (dN (K:=K) (au (aO (K:=K) (af (by rfl)) (λ_ _=>ao) hq (aG (j:=0) rfl)) λH1 s1=>aC (aO (K:=K) (af (by rfl)) (λ_ _=>ao) (s1.tup hq) (aG (j:=2) rfl))) (by show 2<=sizeLine; decide) _ λp H2 s2 hp=>k p H2 s2 hp)
theorem CT:aQ ["tile"] ["tile"] (aI jV):=⟨rfl,rfl,rfl,by decide +kernel,rfl,by decide +kernel,by decide +kernel⟩
theorem uK (T:Txt K mg t):bx P w K mg base cA 1 t.wG t.mD ["tile"] (O9 K 4 gC):=by
 refine T.right_of.fn.ok CT (λvs H Q E h=>?_) (λcdv Ar outer sh H vs Q E hr h=>?_)
 ·obtain⟨a,c,rfl,_⟩:=h
  rfl
 obtain⟨a,c,rfl,hq,h4,k⟩:=h
 refine⟨_,(aB (aX (bP (aa (aH (bg K) (pv 0) aj (λ_ _=>rfl)) (aa (aH (bg K) (pv 0) aj (λ_ _=>rfl)) ah))))),?_⟩
 match c,h4 with
 | [f,g,h,i],_=>exact b9 (dN (K:=K) (au (aO (K:=K) (af (by rfl)) (λ_ _=>ao) hq (aG (j:=1) rfl)) λH1 s1=>aC (aO (K:=K) (af (by rfl)) (λ_ _=>ao) (s1.tup hq) (aG (j:=3) rfl))) (by show 2<=sizeLine; decide) _ λp H2 s2 hp=>k p H2 s2 hp)
end
set_option maxHeartbeats 1000000
section
variable {P:Program}{w:World}{K:zzA}{mg:Str->Option Value}{base:Heap}{t:Ad}
noncomputable def gZ (l r:List Int):Bool:=decide (l.getD 0 0=-1↔r.getD 0 0=-1)&&decide (l.getD 1 0=-1↔r.getD 1 0=-1)
noncomputable def Mw (K:zzA):Sp:=λvs H Q _=>∃a b l r,vs=[.ref a,.ref b]/\aJ K H a (l.map V.int)/\aJ K H b (r.map V.int)/\l.length=2/\r.length=2/\∀H',ai H H'->Q (.bl (gZ l r)) H'
theorem Ff:aQ ["left","right"] ["left","right"] (aI lH):=⟨rfl,rfl,rfl,by decide +kernel,rfl,by decide +kernel,by decide +kernel⟩
theorem Fg (T:Txt K mg t):bx P w K mg base cA 1 t.zj t.oq ["left","right"] (Mw K):=by
 refine T.DC.fn.ok Ff (λvs H Q E h=>?_) (λcdv Ar outer sh H vs Q E hr h=>?_)
 ·obtain⟨a,b,l,r,rfl,_⟩:=h
  rfl
 obtain⟨a,b,l,r,rfl,ha,hb,hl,hr2,k⟩:=h
 refine⟨_,(aB (aX (aM (xQ K) (by rfl) T.tU boot_all (aa (bz (N':=["one","other"]) (ix:=[none,none]) (aK (by kernel_rfl)) rfl (G7 (K:=K) T.KI (aa (pv 0) (aa (pv 1) ah))) (λ_ _ _ _=>(wm K (n:=2) (cL (aE (i:=0) (show List.Nodup (["one","other"]:List Str) from by decide +kernel) rfl (by first | exact Or.inl rfl | exact Or.inr rfl)) (cL (aE (i:=1) (show List.Nodup (["one","other"]:List Str) from by decide +kernel) rfl (by first | exact Or.inl rfl | exact Or.inr rfl)) o7)))) (λ_ _ _ _=>bJ) (λ_ _ _ _=>(iE jP (iE jP (pv 0) (c8 rfl T.ku T.kB) (cj _)) (iE jP (pv 1) (c8 rfl T.ku T.kB) (cj _)) (cj _)))) ah)))),?_⟩
 refine b9 (ng (DM (K:=K) (au (af (by rfl)) λ_ _=>aC (af (by rfl))) ha hb λH1 s1 ha1 hb1=>zz (λi=>.bl (decide (l.getD i 0=-1↔r.getD i 0=-1))) ha1 hb1 (by simp [hl,hr2]) (small (by rw[y3]; omega)) (λi x y q H2 R hx hy s2 hq k2=>?_) λD H2 hD s2 aV=>?_))
 ·obtain⟨f,rfl,_,hf⟩:=kE hx
  obtain⟨g,rfl,_,hg⟩:=kE hy
  refine⟨q,_,rfl,hq,rfl,.int f,_,rfl,.int g,_,rfl,rfl,?_⟩
  refine dh (bA (i7 (i7 (af (by rfl)) (λ_ _=>ao) (by rfl)) (λ_ _=>i7 (af (by rfl)) (λ_ _=>ao) (by rfl)) (by rfl)) ?_) λH3 s3=>k2 H3 s3
  have e1:l.getD i 0=f:=by rw[y4,hf]; rfl
  have e2:r.getD i 0=g:=by rw[y4,hg]; rfl
  rw[e1,e2]
  by_cases c1:f=-1 <;> by_cases c2:g=-1 <;> simp [c1,c2]
 ·rw[y3,hl] at aV
  refine⟨D,[decide (l.getD 0 0=-1↔r.getD 0 0=-1),decide (l.getD 1 0=-1↔r.getD 1 0=-1)],rfl,aD.of (by rw[aV]; rfl),?_⟩
  have:=k H2 (s1.trans s2)
  unfold gZ at this
  simpa using this
theorem Hj (T:Txt K mg t){σ:L2.St}{H:Hp}{te:TE}(h:Gv te σ H (.ref t.gz)):Gw K te σ H (([-1,-1]:List Int).map V.int):=lO h T.GS.sq
noncomputable def cZ (c:List Int):Bool:=decide (c=[-1,-1])
noncomputable def kY (l r:List Int):List Int:=[l.getD 0 0,r.getD 0 0,l.getD 1 0,r.getD 1 0]
noncomputable def oG (cs ds:zzB):zzB:=((cs.filter λc=>cZ (gC c)).map fW).flatMap λl=>(((ds.filter λd=>cZ (fW d)).map gC).filter λr=>gZ l r).map (kY l)
theorem Hl {c:List Int}(h:c.length=4):(fW c).length=2/\(gC c).length=2:=by
 match c,h with
 | [_,_,_,_],_=>exact⟨rfl,rfl⟩
abbrev dQ (cs:zzB):Prop:=(∀c∈cs,c.length=4)/\cs.length<=60
theorem fE {α β:Type}{f:α->List β}{b:Nat}:∀{cs:List α},(∀c∈cs,(f c).length<=b)->(cs.flatMap f).length<=cs.length * b
 | [],_=>zAw _
 | c::cs,h=>by
  rw[List.flatMap_cons,zAb,zBq,Nat.succ_mul]
  have h1:=h c zAs
  have h2:=fE (f:=f) (cs:=cs) λc hc=>h c (zAr _ hc)
  omega
theorem oH {α β:Type}{f:α->List β}{cs:List α}{i:Nat}{c:α}(hi:cs[i]?=some c):(cs.take (i+1)).flatMap f=(cs.take i).flatMap f++f c:=by
 rw[zBv,hi,zEb]
 simp
theorem Ho {to te:TE}{D:Ends}{σ:L2.St}{H:Hp}{F:Addr}{cs ds:zzB}(ho:Gv to σ H (.ref F))(hF:LT K H F cs)(h:∀H',ai H H'->Gl K te σ H' ds)(hz:cs.length+ds.length<=100000)
  (k:∀H',ai H H'->∀o,LT K (upd H' F o) F (cs++ds)->uq (H' F)->D.nx σ (upd H' F o)):tD (yV K "list" Dk to (bE te cM)) D σ H:=by
 refine ho _ λH1 s1=>?_
 obtain⟨qs,g1,g2,g3⟩:=hF.same s1
 refine⟨.inl ⟨rfl,_,aD.of g1⟩,h H1 s1 _ λp H2 np s2 l2=>?_⟩
 obtain⟨rs,k1,k2,k3⟩:=l2
 have l1:qs.length=cs.length:=by rw[←g3,y3]
 have l2:rs.length=ds.length:=by rw[←k3,y3]
 have K9:=s2 _ _ g1
 refine⟨F,p,_,_,rfl,rfl,K9,k1,by rw[y3,y3,zAk]; omega,k H2 (s1.trans s2) _ ⟨qs++rs,by rw[aA,v4],λu hu=>?_,by rw[v4,g3,k3]⟩ (by rw[K9]; exact True.intro)⟩
 rcases wT.mp hu with z | z
 ·exact cP (s2.tup (g2 u z)) K9
 ·exact cP (k2 u z) K9
theorem Fi {n:Nat}{wi:TI}{ix:List (Option Nat)}{g:TG}{tf:TT}{te:TE}{us:TS}{D:Ends}{σ:L2.St}{H:Hp}{cs:zzB}(h:Gl K (jR wi ix g tf te) σ H cs)(k:∀p H',H p=none->ai H H'->LT K H' p cs->us D (σ.set n (some (.ref p))) H'):iW (m9 n wi ix g tf te) us D σ H:=h (λv H2=>us D (σ.set n (some v)) H2) k
theorem sE {σ:L2.St}{H:Hp}:Gl K (AS cM) σ H []:=λR r=>⟨(by show 0<=sizeLine; decide),λp hp=>r p _ hp (ai.new hp _) ⟨[],aA,λ_ hq=>absurd hq (by simp),rfl⟩⟩
theorem sH {σ:L2.St}{H:Hp}{tf:TT}{te:TE}{b:Bool}{R1:VK}{R0:Hp->Prop}(h:Gt tf σ H b)(k1:b=true->∀H',ai H H'->te σ H' R1)(k0:b=false->∀H',ai H H'->R0 H'):tf σ H λb H5=>if b=true then te σ H5 R1 else R0 H5:=h _ λH' s=>by
 cases b with
 | true=>rw[x4 rfl]; exact k1 rfl H' s
 | false=>rw[xL (by decide)]; exact k0 rfl H' s
theorem gD:aQ ["tiles","others","lefts","rights","found","left"] ["tiles","others"] (aI ir):=⟨rfl,rfl,rfl,by decide +kernel,rfl,by decide +kernel,by decide +kernel⟩
theorem Aa (T:Txt K mg t):bx P w K mg base cA 2 t.rW t.jZ ["tiles","others"] (JE K dQ oG):=by
 have oJ:=wX (P:=P) (w:=w) (base:=base) T
 have mK:=uK (P:=P) (w:=w) (base:=base) T
 have Hq:=Fg (P:=P) (w:=w) (base:=base) T
 refine T.wL.fn.ok gD (λvs H Q E h=>?_) (λcdv Ar outer sh H vs Q E hr h=>?_)
 ·obtain⟨a,b,cs,ds,rfl,_⟩:=h
  rfl
 obtain⟨a,b,cs,ds,rfl,ha,hb,hc,hd,k⟩:=h
 refine⟨_,(ak (fc (i:=2) gD.nd rfl (by first | exact Or.inl rfl | exact Or.inr rfl) (N':=["tile"]) (ix:=[none]) (aK (by kernel_rfl)) rfl (bN K (pv 0)) (λ_ _ _ _=>(aE (i:=0) (show List.Nodup (["tile"]:List Str) from by decide +kernel) rfl (by first | exact Or.inl rfl | exact Or.inr rfl))) (λ_ _ _ _=>(m8 (cG (Ol K hr.units) (aq T.right_of mK (hr.mono (by first | decide | omega)) aL (aa (pv 0) ah)) (c8 (v:=.ref t.gz) rfl T.sj rfl) (cj _)))) (λ_ _ _ _=>(aq T.tT oJ (hr.mono (by first | decide | omega)) aL (aa (pv 0) ah)))) (ak (fc (i:=3) gD.nd rfl (by first | exact Or.inl rfl | exact Or.inr rfl) (N':=["tile"]) (ix:=[none]) (aK (by kernel_rfl)) rfl (bN K (pv 1)) (λ_ _ _ _=>(aE (i:=0) (show List.Nodup (["tile"]:List Str) from by decide +kernel) rfl (by first | exact Or.inl rfl | exact Or.inr rfl))) (λ_ _ _ _=>(m8 (cG (Ol K hr.units) (aq T.tT oJ (hr.mono (by first | decide | omega)) aL (aa (pv 0) ah)) (c8 (v:=.ref t.gz) rfl T.sj rfl) (cj _)))) (λ_ _ _ _=>(aq T.right_of mK (hr.mono (by first | decide | omega)) aL (aa (pv 0) ah)))) (ak (aN (i:=4) gD.nd rfl (by first | exact Or.inl rfl | exact Or.inr rfl) (bQ ah)) (ak (b_ zA2 rfl (bN K (pv 2)) (aE (i:=5) gD.nd rfl (by first | exact Or.inl rfl | exact Or.inr rfl)) (aB (bw (jT K zA6 PySem.F.slot_list_extend PySem.F.type_list_extend yX (pv 4) (aa (bz (N':=["right","left"]) (ix:=[none,some 5]) (aK (by kernel_rfl)) rfl (bN K (pv 3)) (λ_ _ _ _=>(aE (i:=0) (show List.Nodup (["right","left"]:List Str) from by decide +kernel) rfl (by first | exact Or.inl rfl | exact Or.inr rfl))) (λ_ _ _ _=>(m8 (jN (aq T.DC Hq (hr.mono (by first | decide | omega)) aL (aa (pv 1) (aa (pv 0) ah)))))) (λ_ _ _ _=>(bP (aa (aH (bg K) (pv 1) aj (λ_ _=>rfl)) (aa (aH (bg K) (pv 0) aj (λ_ _=>rfl)) (aa (aH (bg K) (pv 1) aj (λ_ _=>rfl)) (aa (aH (bg K) (pv 0) aj (λ_ _=>rfl)) ah))))))) ah))))) (aB (aX (pv 4))))))),?_⟩
 have iw:∀{σ:L2.St} {H:Hp},Gw K (tC (.ref t.gz)) σ H (([-1,-1]:List Int).map V.int):=Hj T ao
 refine Fi (mU (af (by rfl)) ha (by have:=hc.2; omega) (λc=>cZ (gC c)) fW λc q H1 R1 R0 iV s1 hq k1 k0=>?_) λL H1 hL s1 l1=>?_
 ·have h4:=hc.1 c iV
  dsimp only [bC]
  exact sH (b:=cZ (gC c)) (gT (dZ (wW false (mV (lO (af (by rfl)) hq) h4) λ_ _=>iw)) (by unfold cZ; rw[false_xor])) (λz H2 s2=>mV (K:=K) (lO (af (by rfl)) (s2.tup hq)) h4 _ λp H3 s3 hp=>k1 z p H3 (s2.trans s3) hp) λz H2 s2=>k0 z H2 s2
 refine Fi (mU (af (by rfl)) (hb.same s1) (by have:=hd.2; omega) (λd=>cZ (fW d)) gC λc q H2 R1 R0 iV s2 hq k1 k0=>?_) λM H2 hM s2 l2=>?_
 ·have h4:=hd.1 c iV
  dsimp only [bC]
  exact sH (b:=cZ (fW c)) (gT (dZ (wW false (mV (lO (af (by rfl)) hq) h4) λ_ _=>iw)) (by unfold cZ; rw[false_xor])) (λz H2 s2=>mV (K:=K) (lO (af (by rfl)) (s2.tup hq)) h4 _ λp H3 s3 hp=>k1 z p H3 (s2.trans s3) hp) λz H2 s2=>k0 z H2 s2
 generalize hls:(cs.filter λc=>cZ (gC c)).map fW=ls at l1
 generalize hrs:(ds.filter λd=>cZ (fW d)).map gC=rs at l2
 have ll:ls.length<=60:=by rw[←hls,y3]; have:=zA1 (λc=>cZ (gC c)) cs; have:=hc.2; omega
 have rl:rs.length<=60:=by rw[←hrs,y3]; have:=zA1 (λd=>cZ (fW d)) ds; have:=hd.2; omega
 have Vh:∀l∈ls,l.length=2:=λl hl=>by
  rw[←hls] at hl
  obtain⟨c,iV,rfl⟩:=x5.mp hl
  exact (Hl (hc.1 c (zAl.mp iV).1)).1
 have Vi:∀r∈rs,r.length=2:=λr hl=>by
  rw[←hrs] at hl
  obtain⟨c,iV,rfl⟩:=x5.mp hl
  exact (Hl (hd.1 c (zAl.mp iV).1)).2
 have s02:=s1.trans s2
 obtain⟨qs,q1,q2,q3⟩:=l1.same s2
 refine bf (mJ (sE (K:=K)) rfl λF H3 hF s3 l3=>?_)
 refine mT (K:=K) (xs:=qs.map rv) (af (by rfl)) (aD.of (s3 _ _ q1))
  (λi σ H4=>∃e5:Option V,σ=[some (.ref a),some (.ref b),some (.ref L),some (.ref M),some (.ref F),e5]/\ai H2 H4/\LT K H4 F ((ls.take i).flatMap λl=>(rs.filter λr=>gZ l r).map (kY l)))
  (λH4 s4=>⟨none,rfl,s3.trans s4,l3.same s4⟩) (λi σ H4 hP=>by obtain⟨_,_,s4,_⟩:=hP; exact aD.of (s4 _ _ q1)) (λi v σ H4 hv hP=>?_) fun σ H4 hP=>?_
 ·obtain⟨e5,rfl,s4,l4⟩:=hP
  obtain⟨q,lV,rfl,cD⟩:=j7 hv
  rw[q3] at cD
  have hl:=zAj cD
  have h2:=Vh _ hl
  have uH:=s4.tup (q2 q lV)
  dsimp only [bC]
  have lb:((ls.take i).flatMap λl=>(rs.filter λr=>gZ l r).map (kY l)).length<=3600:=by
   have h1:=fE (f:=λl=>(rs.filter λr=>gZ l r).map (kY l)) (b:=60) (cs:=ls.take i) λl _=>by
    rw[y3]
    exact zAu (zA1 _ _) rl
   have h2:(ls.take i).length<=60:=by rw[zA9]; omega
   omega
  refine Ho (ds:=(rs.filter λr=>gZ q.2 r).map (kY q.2)) (af (by rfl)) l4 (λH5 s5=>mU (af (by rfl)) (l2.same (s4.trans s5)) (by omega) (λr=>gZ q.2 r) (kY q.2) λr p H6 R1 R0 hr s6 hp k1 k0=>?_) ?_ λH5 s5 o l5 mu=>⟨_,rfl,(s4.trans s5).put hF o,?_⟩
  ·have r2:=Vi r hr
   have O_:=(s5.trans s6).tup uH
   dsimp only [bC]
   refine sH (b:=gZ q.2 r) (iH (iI (au (af (by rfl)) λ_ _=>aC (af (by rfl))) λH7 R7 s7 k7=>⟨q.1,p,q.2,r,rfl,s7.tup O_,s7.tup hp,h2,r2,k7⟩)) (λz H7 s7=>?_) λz H7 s7=>k0 z H7 s7
   generalize q.2=l at *
   match l,h2,r,r2 with
   | [l0,l1],_,[r0,r1],_=>
    exact dN (K:=K) (au (aO (K:=K) (af (by rfl)) (λ_ _=>ao) (s7.tup O_) (aG (j:=0) rfl)) λH8 s8=>au (aO (K:=K) (af (by rfl)) (λ_ _=>ao) ((s7.trans s8).tup hp) (aG (j:=0) rfl)) λH9 s9=>au (aO (K:=K) (af (by rfl)) (λ_ _=>ao) ((s7.trans (s8.trans s9)).tup O_) (aG (j:=1) rfl)) λic s10=>aC (aO (K:=K) (af (by rfl)) (λ_ _=>ao) ((s7.trans (s8.trans (s9.trans s10))).tup hp) (aG (j:=1) rfl))) (by show 4<=sizeLine; decide) _ λu H8 s8 hu=>k1 z u H8 (s7.trans s8) hu
  ·rw[y3]
   have:=zA1 (λr=>gZ q.2 r) rs
   omega
  ·rw[oH cD]
   exact l5
 ·obtain⟨e5,rfl,s4,l4⟩:=hP
  refine dJ (af (v:=.ref F) (by rfl)) λH5 s5=>k F H5 (s02.free hF) (s02.trans (s4.trans s5)) ?_
  have e:(qs.map rv).length=ls.length:=by rw[y3,←q3,y3]
  rw[e,zBb] at l4
  unfold oG
  rw[hls,hrs]
  exact l4.same s5
noncomputable def nH (cs ds:zzB):zzB:=(cs.filter λc=>!cZ (gC c))++(ds.filter λd=>!cZ (fW d))++oG cs ds
theorem zC {cs ds:zzB}(hc:dQ cs)(hd:dQ ds):(oG cs ds).length<=3600:=by
 unfold oG
 have h1:=fE (f:=λl=>(((ds.filter λd=>cZ (fW d)).map gC).filter λr=>gZ l r).map (kY l)) (b:=60) (cs:=(cs.filter λc=>cZ (gC c)).map fW) λl _=>by
  rw[y3]
  refine zAu (zA1 _ _) ?_
  rw[y3]
  exact zAu (zA1 _ _) hd.2
 have h2:((cs.filter λc=>cZ (gC c)).map fW).length<=60:=by
  rw[y3]
  exact zAu (zA1 _ _) hc.2
 omega
theorem oK:aQ ["tiles","others","found"] ["tiles","others"] (aI fQ):=⟨rfl,rfl,rfl,by decide +kernel,rfl,by decide +kernel,by decide +kernel⟩
theorem oM (T:Txt K mg t):bx P w K mg base cA 3 t.pJ t.iK ["tiles","others"] (JE K dQ nH):=by
 have oJ:=wX (P:=P) (w:=w) (base:=base) T
 have mK:=uK (P:=P) (w:=w) (base:=base) T
 have B3:=Aa (P:=P) (w:=w) (base:=base) T
 refine T.nD.fn.ok oK (λvs H Q E h=>?_) (λcdv Ar outer sh H vs Q E hr h=>?_)
 ·obtain⟨a,b,cs,ds,rfl,_⟩:=h
  rfl
 obtain⟨a,b,cs,ds,rfl,ha,hb,hc,hd,k⟩:=h
 refine⟨_,(ak (fc (i:=2) oK.nd rfl (by first | exact Or.inl rfl | exact Or.inr rfl) (N':=["tile"]) (ix:=[none]) (aK (by kernel_rfl)) rfl (bN K (pv 0)) (λ_ _ _ _=>(aE (i:=0) (show List.Nodup (["tile"]:List Str) from by decide +kernel) rfl (by first | exact Or.inl rfl | exact Or.inr rfl))) (λ_ _ _ _=>(m8 (cG (ET K hr.units) (aq T.right_of mK (hr.mono (by first | decide | omega)) aL (aa (pv 0) ah)) (c8 (v:=.ref t.gz) rfl T.sj rfl) (cj _)))) (λ_ _ _ _=>(pv 0))) (ak (bw (jT K zA6 PySem.F.slot_list_extend PySem.F.type_list_extend yX (pv 2) (aa (bz (N':=["tile"]) (ix:=[none]) (aK (by kernel_rfl)) rfl (bN K (pv 1)) (λ_ _ _ _=>(aE (i:=0) (show List.Nodup (["tile"]:List Str) from by decide +kernel) rfl (by first | exact Or.inl rfl | exact Or.inr rfl))) (λ_ _ _ _=>(m8 (cG (ET K hr.units) (aq T.tT oJ (hr.mono (by first | decide | omega)) aL (aa (pv 0) ah)) (c8 (v:=.ref t.gz) rfl T.sj rfl) (cj _)))) (λ_ _ _ _=>(pv 0))) ah))) (aB (aX (av iZ (pv 2) (aq T.wL B3 (hr.mono (by first | decide | omega)) aL (aa (pv 0) (aa (pv 1) ah)))))))),?_⟩
 have iw:∀{σ:L2.St} {H:Hp},Gw K (tC (.ref t.gz)) σ H (([-1,-1]:List Int).map V.int):=Hj T ao
 have n1:=zA1 (λc=>!cZ (gC c)) cs
 have n2:=zA1 (λd=>!cZ (fW d)) ds
 have n3:=zC hc hd
 have:=hc.2
 have:=hd.2
 refine Fi (mU (af (by rfl)) ha (by omega) (λc=>!cZ (gC c)) (λc=>c) λc q H1 R1 R0 iV s1 hq k1 k0=>?_) λF H1 hF s1 l1=>?_
 ·have h4:=hc.1 c iV
  dsimp only [bC]
  exact sH (b:=!cZ (gC c)) (gT (dZ (wW true (mV (lO (af (by rfl)) hq) h4) λ_ _=>iw)) (by unfold cZ; rw[Bool.true_xor])) (λz H2 s2=>(af (v:=.ref q) (by rfl)) _ λH3 s3=>k1 z q H3 (s2.trans s3) ((s2.trans s3).tup hq)) λz H2 s2=>k0 z H2 s2
 rw[List.map_id'] at l1
 refine Bg (Ho (ds:=ds.filter λd=>!cZ (fW d)) (af (by rfl)) l1 (λH2 s2=>K8 (mU (af (by rfl)) (hb.same (s1.trans s2)) (by omega) (λd=>!cZ (fW d)) (λc=>c) λc q H3 R1 R0 iV s3 hq k1 k0=>?_) (List.map_id' _)) (by omega) λH2 s2 o l2 mu=>?_)
 ·have h4:=hd.1 c iV
  dsimp only [bC]
  exact sH (b:=!cZ (fW c)) (gT (dZ (wW true (mV (lO (af (by rfl)) hq) h4) λ_ _=>iw)) (by unfold cZ; rw[Bool.true_xor])) (λz H2 s2=>(af (v:=.ref q) (by rfl)) _ λH3 s3=>k1 z q H3 (s2.trans s3) ((s2.trans s3).tup hq)) λz H2 s2=>k0 z H2 s2
 have s02:ai H (upd H2 F o):=(s1.trans s2).put hF o
 generalize upd H2 F o=H3 at l2 s02
 refine b9 (mJ (BY (kF (af (by rfl)) l2) (λH4 s4=>(vq (kF (af (by rfl)) (ha.same (s02.trans s4))) (λH5 s5=>kF (af (by rfl)) (hb.same (s02.trans (s4.trans s5)))) hc hd).k) (by rw[zAb]; omega)) rfl λp H4 hp s4 l4=>k p H4 (s02.free hp) (s02.trans s4) l4)
theorem DR:∀{l:zzB},l.Pairwise (λa b=>HT.lexLt a b=true)->mG l=true
 | [],_=>rfl
 | [_],_=>rfl
 | a::b::r,h=>by
  obtain⟨h1,h2⟩:=List.pairwise_cons.mp h
  show (HT.lexLt a b&&mG (b::r))=true
  rw[h1 b zAs,DR h2]
  rfl
noncomputable def DS (K:zzA):Sp:=λvs H Q _=>∃a cs,vs=[.ref a]/\LT K H a cs/\jE cs/\∀p H' ds,H p=none->ai H H'->LT K H' p ds->ds.Pairwise (λa b=>HT.lexLt a b=true)->(∀c,c∈ds↔c∈cs)->Q (.ref p) H'
theorem B4:aQ ["tiles"] ["tiles"] (aI ja):=⟨rfl,rfl,rfl,by decide +kernel,rfl,by decide +kernel,by decide +kernel⟩
theorem nI (T:Txt K mg t):bx P w K mg base cA 1 t.ux t.kP ["tiles"] (DS K):=by
 refine T.oA.fn.ok B4 (λvs H Q E h=>?_) (λcdv A outer s H vs Q E hr h=>?_)
 ·obtain⟨a,cs,rfl,_⟩:=h
  rfl
 obtain⟨a,cs,rfl,hT,hk,k⟩:=h
 refine⟨_,(aB (aX (aM (Jz K P w) (by rfl) T.kC boot_sorted (aa (eZ (Ow K P w hr.units) (by rfl) T.GU boot_dict (aa (bz (N':=["tile"]) (ix:=[none]) (aK (by kernel_rfl)) rfl (bN K (pv 0)) (λ_ _ _ _=>(aE (i:=0) (show List.Nodup (["tile"]:List Str) from by decide +kernel) rfl (by first | exact Or.inl rfl | exact Or.inr rfl))) (λ_ _ _ _=>bJ) (λ_ _ _ _=>(bP (aa (pv 0) (aa lZ ah))))) ah)) ah)))),?_⟩
 obtain⟨qs,q1,q2,q3⟩:=hT
 have hl:qs.length=cs.length:=by rw[←q3,y3]
 have hk2:=hk.2
 refine b9 (ng (ng (jS (K:=K) (af (by rfl)) (aD.of q1) λH1 s1 hq1=>?_)))
 refine lq hq1 (by rw[y3,zAk]; omega) (λi ys H3=>∃ps:List (Addr × Addr × List Int),ys=ps.map Ov/\ps.map (·.2)=qs.take i/\∀p∈ps,aJ K H3 p.1 [.ref p.2.1,.bl true]) (λD hD=>⟨[],rfl,rfl,λ_ hq=>absurd hq (by simp)⟩) (λD i v ys H3 R1 R0 hD hv s3 aV hP k1 k0=>?_) λD ys H3 hD s3 aV hl3 hP=>?_
 ·rw[wP] at hv
  obtain⟨q,cD,rfl⟩:=zBf.mp hv
  obtain⟨ps,rfl,hp2,hp3⟩:=hP
  dsimp only [bC,kq]
  rw[x4 rfl]
  refine dN (K:=K) (au (af (v:=.ref q.1) (by rfl)) λ_ _=>aC (ao (v:=.bl true))) (by show 2<=sizeLine; decide) _ λp H6 s6 hp=>k1 _ _ s6 ⟨ps++[(p,q)],by rw[v4]; rfl,by rw[v4,hp2,zBv,cD]; rfl,λu hu=>?_⟩
  rcases wT.mp hu with z | z
  ·exact cP (s6.tup (hp3 u z)) (s6 _ _ aV)
  ·rw[w8.mp z]
   exact cP hp (s6 _ _ aV)
 ·obtain⟨ps,rfl,hp2,hp3⟩:=hP
  rw[y3,zBb] at hp2
  have hpl:ps.length=cs.length:=by rw[←hl,←hp2,y3]
  have mem:∀p∈ps,p.2∈qs:=λp hp=>hp2 ▸ zA5 hp
  have s03:=s1.trans s3
  refine⟨D,ps,rfl,aD.of aV,λp hp=>⟨hp3 p hp,s03.tup (q2 _ (mem p hp))⟩,by omega,λS ds hS m1 m2=>?_⟩
  have sS:=ai.new hS (wB P w S ds)
  have hds:∀x∈ds,∃p∈ps,x.1=p.2.2/\x.2.1=p.2.1:=m2
  have sub:∀x∈ds,x.1∈cs:=λx hx=>by
   obtain⟨p,hp,e1,_⟩:=hds x hx
   rw[e1,←q3]
   exact zA5 (mem p hp)
  refine⟨S,ds,rfl,aA,λx hx=>?_,λx hx=>?_,λnd=>?_,λl rs hl' pm pw=>?_⟩
  ·obtain⟨p,hp,e1,e2⟩:=hds x hx
   rw[e1,e2]
   exact (s03.trans sS).tup (q2 _ (mem p hp))
  ·intro z
   have:=hk.1 _ (sub x hx)
   rw[z] at this
   cases this
  ·have:=cR (l2:=cs) nd λy hy=>by
    obtain⟨x,hx,rfl⟩:=x5.mp hy
    exact sub x hx
   rw[y3] at this
   omega
  ·have sl:=ai.new hl' (.lst (rs.map rv))
   have all:=s03.trans (sS.trans sl)
   refine k l _ (rs.map (·.2)) ((s03.trans sS).free hl') all ⟨rs,aA,λu hu=>?_,rfl⟩ (by rw[zBk]; exact pw) λc=>?_
   ·obtain⟨x,hx,rfl⟩:=x5.mp (pm.mem_iff.mp hu)
    obtain⟨p,hp,e1,e2⟩:=hds x hx
    show aJ K _ x.2.1 (x.1.map V.int)
    rw[e1,e2]
    exact all.tup (q2 _ (mem p hp))
   ·constructor
    ·intro z
     obtain⟨u,hu,rfl⟩:=x5.mp z
     obtain⟨x,hx,rfl⟩:=x5.mp (pm.mem_iff.mp hu)
     exact sub x hx
    ·intro z
     rw[←q3,←hp2,zAy] at z
     obtain⟨p,hp,e⟩:=x5.mp z
     have:=(m1 c).mpr ⟨p,hp,e⟩
     unfold atKey at this
     rw[Option.isSome_map,List.find?_isSome] at this
     obtain⟨x,hx,e⟩:=this
     exact x5.mpr ⟨(x.2.1,x.1),pm.mem_iff.mpr (x5.mpr ⟨x,hx,rfl⟩),zAt e⟩
end
set_option maxHeartbeats 1000000
structure In (x:Str)(ts:zzB):Prop where
 pos:1<=x.length
 most:x.length<=2
 ab:∀c∈x.cps.toList,c=97\/c=98
 ok:∀t∈ts,aU x.length t
 up:ts.Pairwise λa b=>HT.lexLt a b=true
 len:ts.length<=60
structure Ou (x:Str)(ts:zzB):Prop where
 most:x.length<=4
 ab:∀c∈x.cps.toList,c=97\/c=98
 ok:∀t∈ts,aU x.length t
 up:ts.Pairwise λa b=>HT.lexLt a b=true
 len:ts.length<=9000
theorem In.ou {x:Str}{ts:zzB}(h:In x ts):Ou x ts:=⟨by have:=h.most; omega,h.ab,h.ok,h.up,by have:=h.len; omega⟩
theorem Ou.sg {x:Str}{ts:zzB}(h:Ou x ts):Sg x ts:=by
 have h1:=h.most
 refine⟨⟨by omega,h.len,λt ht=>by rw[(h.ok t ht).1]; decide⟩,?_⟩
 unfold vn
 have e1:iA x=true:=zC2.mpr λc hc=>by
  rcases h.ab c hc with rfl | rfl <;> decide
 have e2:ts.all (j6 x.length)=true:=zC2.mpr λt ht=>by
  obtain⟨g1,g2⟩:=h.ok t ht
  unfold j6
  rw[zAm g1,Bool.true_and]
  exact zC2.mpr λf hf=>by
   have:=g2 f hf
   rw[zAm this.1,zAm this.2]
   rfl
 rw[zAm (by omega:x.length<=16),e1,e2,DR h.up]
 rfl
theorem In.dQ {x:Str}{ts:zzB}(h:In x ts):dQ ts:=⟨λc hc=>(h.ok c hc).1,h.len⟩
theorem t6 (x y:Str):(x++y).cps.toList=x.cps.toList++y.cps.toList:=by
 show (x.cps++y.cps).toList=_
 simp
theorem kH (x y:Str):(x++y).length=x.length+y.length:=by
 show (x.cps++y.cps).size=_
 rw[Array.size_append]
 rfl
theorem B6 {x y:Str}(hx:∀c∈x.cps.toList,c=97\/c=98)(hy:∀c∈y.cps.toList,c=97\/c=98):∀c∈(x++y).cps.toList,c=97\/c=98:=λc hc=>by
 rw[t6] at hc
 rcases wT.mp hc with h | h
 ·exact hx c h
 ·exact hy c h
theorem Fj {n N:Nat}(h:n<=N){t:List Int}(ht:aU n t):aU N t:=⟨ht.1,λf hf=>⟨(ht.2 f hf).1,by have:=(ht.2 f hf).2; omega⟩⟩
theorem Rf {n m:Nat}{t:List Int}(ht:aU m t):aU (n+m) (t.map (mv n)):=⟨by rw[y3]; exact ht.1,λf hf=>by
 obtain⟨g,hg,rfl⟩:=x5.mp hf
 have:=ht.2 g hg
 unfold mv
 split <;> omega⟩
theorem Hs {n:Nat}{t:List Int}(ht:aU n t):aU n (iU t):=by
 obtain⟨h1,h2⟩:=ht
 match t,h1 with
 | [a,b,c,d],_=>
  refine⟨rfl,λf hf=>h2 f ?_⟩
  simp [iU] at hf ⊢
  rcases hf with h | h | h | h <;> simp [h]
theorem Pb {n:Nat}{t:List Int}(ht:aU n t):aU n (qM t):=by
 obtain⟨h1,h2⟩:=ht
 match t,h1 with
 | [a,b,c,d],_=>
  refine⟨rfl,λf hf=>h2 f ?_⟩
  simp [qM] at hf ⊢
  rcases hf with h | h | h | h <;> simp [h]
theorem Mx {n:Nat}{c d:List Int}(hc:aU n c)(hd:aU n d):aU n (kY (fW c) (gC d)):=by
 obtain⟨h1,h2⟩:=hc
 obtain⟨h3,h4⟩:=hd
 match c,h1,d,h3 with
 | [a,b,c,d],_,[a',b',c',d'],_=>
  refine⟨rfl,λf hf=>?_⟩
  simp [kY,fW,gC] at hf
  rcases hf with h | h | h | h
  ·exact h2 f (by simp [h])
  ·exact h4 f (by simp [h])
  ·exact h2 f (by simp [h])
  ·exact h4 f (by simp [h])
theorem B7 {cs ds:zzB}{t:List Int}:t∈oG cs ds↔∃c∈cs,∃d∈ds,cZ (gC c)=true/\cZ (fW d)=true/\gZ (fW c) (gC d)=true/\t=kY (fW c) (gC d):=by
 unfold oG
 rw[zDm]
 constructor
 ·rintro⟨l,hl,ht⟩
  obtain⟨c,hc,rfl⟩:=x5.mp hl
  obtain⟨r,hr,rfl⟩:=x5.mp ht
  obtain⟨hr1,hr2⟩:=zAl.mp hr
  obtain⟨d,hd,rfl⟩:=x5.mp hr1
  exact⟨c,(zAl.mp hc).1,d,(zAl.mp hd).1,(zAl.mp hc).2,(zAl.mp hd).2,hr2,rfl⟩
 ·rintro⟨c,hc,d,hd,e1,e2,e3,rfl⟩
  exact⟨fW c,x5.mpr ⟨c,zAl.mpr ⟨hc,e1⟩,rfl⟩,x5.mpr ⟨gC d,zAl.mpr ⟨x5.mpr ⟨d,zAl.mpr ⟨hd,e2⟩,rfl⟩,e3⟩,rfl⟩⟩
theorem DT {cs ds:zzB}{t:List Int}:t∈nH cs ds↔(t∈cs/\cZ (gC t)=false)\/(t∈ds/\cZ (fW t)=false)\/t∈oG cs ds:=by
 unfold nH
 rw[wT,wT,zAl,zAl,or_assoc]
 simp
theorem Ht {n:Nat}{cs ds:zzB}(hc:∀c∈cs,aU n c)(hd:∀d∈ds,aU n d):∀t∈nH cs ds,aU n t:=λt ht=>by
 rcases DT.mp ht with h | h | h
 ·exact hc t h.1
 ·exact hd t h.1
 ·obtain⟨c,h1,d,h2,_,_,_,rfl⟩:=B7.mp h
  exact Mx (hc c h1) (hd d h2)
theorem DU {cs ds:zzB}(hc:dQ cs)(hd:dQ ds):(nH cs ds).length<=9000:=by
 unfold nH
 rw[zAb,zAb]
 have h1:=zA1 (λc=>!cZ (gC c)) cs
 have h2:=zA1 (λd=>!cZ (fW d)) ds
 have h3:=zC hc hd
 have:=hc.2
 have:=hd.2
 omega
section
variable {P:Program}{w:World}{K:zzA}{mg:Str->Option Value}{base:Heap}{t:Ad}
theorem t7 {ta tb:TE}{σ:L2.St}{H:Hp}{z:Str}{ok:zzB->Prop}{R:VK}(hl:Gv ta σ H (.str z))(ht:∀H',ai H H'->∀R:VK,(∀p H2 ws,ai H' H2->LT K H2 p ws->ok ws->R (.ref p) H2)->tb σ H' R)
  (k:∀r H2 ws,H r=none->ai H H2->dO K H2 r z ws->ok ws->R (.ref r) H2):uY (bE ta (bE tb cM)) σ H R:=hl _ λH1 s1=>ht H1 s1 _ λp H2 ws s2 l2 o2=>⟨(by show 2<=sizeLine; decide),λr hr=>k r _ ws ((s1.trans s2).free hr) ((s1.trans s2).trans (ai.new hr _)) ⟨p,aJ.of aA,l2.same (ai.new hr _)⟩ o2⟩
abbrev Made (L:zzB) (ws:zzB):Prop:=ws.Pairwise (λa b=>HT.lexLt a b=true)/\∀c,c∈ws↔c∈L
theorem Made.ou {z:Str}{L ws:zzB}(h:Made L ws)(hz:z.length<=4)(ab:∀c∈z.cps.toList,c=97\/c=98)(ok:∀t∈L,aU z.length t)(len:L.length<=9000):Ou z ws:=by
 refine⟨hz,ab,λt ht=>ok t ((h.2 t).mp ht),h.1,?_⟩
 have nd:ws.Nodup:=h.1.imp λ{a b} q e=>by
  subst e
  rw[lex_irrefl] at q
  cases q
 exact zAu (cR nd λy hy=>(h.2 y).mp hy) len
noncomputable def Pc (K:zzA)(L:Nat->zzB->zzB->zzB):Sp:=λvs H Q _=>∃(a b:Addr) (x y:Str) (ts us:zzB),vs=[.ref a,.ref b]/\dO K H a x ts/\In x ts/\dO K H b y us/\In y us/\
 ∀r H' ws,H r=none->ai H H'->dO K H' r (x++y) ws->Ou (x++y) ws->(∀c,c∈ws↔c∈L x.length ts us)->Q (.ref r) H'
theorem once {te:TE}{σ:L2.St}{H:Hp}{L:zzB}{E:XK}(h:Gk K te σ H L)(hk:jE L)(R:VK)(r:∀p H2 ws,ai H H2->LT K H2 p ws->Made L ws->R (.ref p) H2):gS (DS K) [] E (bE te cM) σ H R:=h _ λa H1 s1 l1=>⟨a,L,rfl,l1,hk,λp H2 ds hp s2 l2 pw me=>r p H2 ds (s1.trans s2) l2 ⟨pw,me⟩⟩
theorem vv {ta tb:TE}{σ:L2.St}{H:Hp}{cs:zzB}{n:Nat}{E:XK}(h:Gk K ta σ H cs)(g:∀H',ai H H'->Gv tb σ H' (.int n))(hk:jE cs):Gl K (gS (Hi K) [] E (bE ta (bE tb cM))) σ H (cs.map λc=>c.map (mv n)):=λR r=>h _ λp H1 s1 t1=>g H1 s1 _ λH2 s2=>⟨p,cs,n,rfl,t1.same s2,hk,λq H3 hq s3 l3=>r q H3 ((s1.trans s2).free hq) ((s1.trans s2).trans s3) l3⟩
noncomputable def yh (n:Nat)(ts us:zzB):zzB:=ts++us.map λc=>c.map (mv n)
theorem dQ.four {cs:zzB}(h:dQ cs):jE cs:=⟨h.1,by have:=h.2; omega⟩
theorem t8 {n:Nat}{cs:zzB}(h:∀c∈cs,aU n c)(hl:cs.length<=9000):(∀c∈cs,aU n c)/\jE cs:=⟨h,λc hc=>(h c hc).1,hl⟩
theorem eE {n:Nat}{y:Str}{us:zzB}(hN:In y us):(∀c∈us.map (λc=>c.map (mv n)),aU (n+y.length) c)/\dQ (us.map λc=>c.map (mv n)):=by
 have h:∀c∈us.map (λc=>c.map (mv n)),aU (n+y.length) c:=λc hc=>by
  obtain⟨d,hd,rfl⟩:=x5.mp hc
  exact Rf (hN.ok d hd)
 exact⟨h,λc hc=>(h c hc).1,by rw[y3]; exact hN.len⟩
theorem B8 {n:Nat}{cs:zzB}(h:∀c∈cs,aU n c):∀c∈cs.map iU,aU n c:=λc hc=>by
 obtain⟨d,hd,rfl⟩:=x5.mp hc
 exact Hs (h d hd)
section
variable {x y:Str}{ts us:zzB}
theorem B9 (hM:In x ts)(hN:In y us):(∀c∈yh x.length ts us,aU (x.length+y.length) c)/\jE (yh x.length ts us):=by
 refine t8 (λc hc=>?_) ?_
 ·rcases wT.mp hc with h | h
  ·exact Fj (by omega) (hM.ok c h)
  ·exact (eE hN).1 c h
 ·have h1:=hM.len
  have h2:=hN.len
  unfold yh
  rw[zAb,y3]
  omega
noncomputable def B_ (n:Nat)(ts us:zzB):zzB:=nH ts (us.map λc=>c.map (mv n))
theorem Ca (hM:In x ts)(hN:In y us):(∀c∈B_ x.length ts us,aU (x.length+y.length) c)/\jE (B_ x.length ts us):=t8 (Ht (λc hc=>Fj (by omega) (hM.ok c hc)) (eE hN).1) (DU hM.dQ (eE (n:=x.length) hN).2)
theorem yi {cs:zzB}(h:dQ cs):dQ (cs.map iU):=⟨λc hc=>by
 obtain⟨d,hd,rfl⟩:=x5.mp hc
 have:=h.1 d hd
 match d,this with
 | [_,_,_,_],_=>rfl,by rw[y3]; exact h.2⟩
noncomputable def yj (n:Nat)(ts us:zzB):zzB:=(nH (ts.map iU) ((us.map λc=>c.map (mv n)).map iU)).map iU
theorem wY (hM:In x ts)(hN:In y us):(∀c∈nH (ts.map iU) ((us.map λc=>c.map (mv x.length)).map iU),aU (x.length+y.length) c)/\jE (nH (ts.map iU) ((us.map λc=>c.map (mv x.length)).map iU)):=t8 (Ht (B8 λc hc=>Fj (by omega) (hM.ok c hc)) (B8 (eE hN).1)) (DU (yi hM.dQ) (yi (eE (n:=x.length) hN).2))
theorem Cb (hM:In x ts)(hN:In y us):(∀c∈yj x.length ts us,aU (x.length+y.length) c)/\jE (yj x.length ts us):=t8 (B8 (wY hM hN).1) (by unfold yj; rw[y3]; exact (wY hM hN).2.2)
end
theorem Hu:aQ ["one","other"] ["one","other"] (aI nA):=⟨rfl,rfl,rfl,by decide +kernel,rfl,by decide +kernel,by decide +kernel⟩
theorem Hv (T:Txt K mg t):bx P w K mg base cA 5 t.BC t.qg ["one","other"] (Pc K yh):=by
 have fF:=j8 (P:=P) (w:=w) (base:=base) T
 have cO:=gb (P:=P) (w:=w) (base:=base) T
 have jg:=nI (P:=P) (w:=w) (base:=base) T
 have gE:=kG (P:=P) (w:=w) (base:=base) T
 refine T.either.fn.ok Hu (λvs H Q E h=>?_) (λcdv A outer s H vs Q E hr h=>?_)
 ·obtain⟨a,b,x,y,ts,us,rfl,_⟩:=h
  rfl
 obtain⟨a,b,x,y,ts,us,rfl,hA,hM,hB,hN,k⟩:=h
 have hx:=hM.most
 have hy:=hN.most
 obtain⟨TA,dR,lA⟩:=id hA
 obtain⟨TB,oN,lB⟩:=id hB
 refine⟨_,(ak (bw (aq T.look_both fF (hr.mono (by first | decide | omega)) aL (aa (pv 0) (aa (pv 1) ah)))) (ak (bw (aq T.gA cO (hr.mono (by first | decide | omega)) aL (aa (av aP (aM (cC K) (by rfl) T.bM zBh (aa (aH (bg K) (pv 0) aj (λ_ _=>rfl)) ah)) (aM (cC K) (by rfl) T.bM zBh (aa (aH (bg K) (pv 1) aj (λ_ _=>rfl)) ah))) ah))) (aB (aX (bP (aa (av l_ (aH (bg K) (pv 0) aj (λ_ _=>rfl)) (aH (bg K) (pv 1) aj (λ_ _=>rfl))) (aa (aq T.oA jg (hr.mono (by first | decide | omega)) aL (aa (av iZ (aH (bg K) (pv 0) aj (λ_ _=>rfl)) (aq T.kW gE (hr.mono (by first | decide | omega)) aL (aa (aH (bg K) (pv 1) aj (λ_ _=>rfl)) (aa (aM (cC K) (by rfl) T.bM zBh (aa (aH (bg K) (pv 0) aj (λ_ _=>rfl)) ah)) ah)))) ah)) ah))))))),?_⟩
 refine d8 (bL (au (af (by rfl)) λ_ _=>aC (af (by rfl))) λH1 s1=>⟨a,b,x,y,ts,us,rfl,hA.same s1,hM.ou.sg,hB.same s1,hN.ou.sg,λH2 s2=>?_⟩)
 have s02:=s1.trans s2
 refine d8 (bL (aC (aS (bZ (K:=K) (aC (aO (K:=K) (af (by rfl)) (λ_ _=>ao) (s02.tup dR) (aG (j:=0) rfl))) (small (by omega))) λH3 s3=>bZ (K:=K) (aC (aO (K:=K) (af (by rfl)) (λ_ _=>ao) ((s02.trans s3).tup oN) (aG (j:=0) rfl))) (small (by omega)))) λH3 s3=>⟨_,rfl,by omega,λH4 s4=>?_⟩)
 have s04:=s02.trans (s3.trans s4)
 refine b9 (t7 (K:=K) (z:=x++y) (ok:=Made (yh x.length ts us)) (tP (aO (K:=K) (af (by rfl)) (λ_ _=>ao) (s04.tup dR) (aG (j:=0) rfl)) (λH5 s5=>aO (K:=K) (af (by rfl)) (λ_ _=>ao) ((s04.trans s5).tup oN) (aG (j:=0) rfl)) (small (by omega))) (λH5 s5=>?_) λr H5 ws hr s5 sy o=>?_)
 ·have s05:=s04.trans s5
  refine once (BY (kF (aO (K:=K) (af (by rfl)) (λ_ _=>ao) (s05.tup dR) (aG (j:=1) rfl)) (lA.same s05)) (λH6 s6=>(vv (kF (aO (K:=K) (af (by rfl)) (λ_ _=>ao) ((s05.trans s6).tup oN) (aG (j:=1) rfl)) (lB.same (s05.trans s6))) (λH7 s7=>bZ (K:=K) (aC (aO (K:=K) (af (by rfl)) (λ_ _=>ao) ((s05.trans (s6.trans s7)).tup dR) (aG (j:=0) rfl))) (small (by omega))) hN.dQ.four).k) ?_).k ?_
  ·have h1:=hM.len
   have h2:=hN.len
   rw[y3]
   omega
  ·exact (B9 hM hN).2
 ·exact k r H5 ws (s04.free hr) (s04.trans s5) sy (o.ou (by rw[kH]; omega) (B6 hM.ab hN.ab) (by rw[kH]; exact (B9 hM hN).1) (B9 hM hN).2.2) o.2
theorem Cc:aQ ["one","other"] ["one","other"] (aI jb):=⟨rfl,rfl,rfl,by decide +kernel,rfl,by decide +kernel,by decide +kernel⟩
theorem Cd (T:Txt K mg t):bx P w K mg base cA 5 t.uz t.kQ ["one","other"] (Pc K B_):=by
 have fF:=j8 (P:=P) (w:=w) (base:=base) T
 have cO:=gb (P:=P) (w:=w) (base:=base) T
 have jg:=nI (P:=P) (w:=w) (base:=base) T
 have gE:=kG (P:=P) (w:=w) (base:=base) T
 have kI:=oM (P:=P) (w:=w) (base:=base) T
 refine T.oB.fn.ok Cc (λvs H Q E h=>?_) (λcdv A outer s H vs Q E hr h=>?_)
 ·obtain⟨a,b,x,y,ts,us,rfl,_⟩:=h
  rfl
 obtain⟨a,b,x,y,ts,us,rfl,hA,hM,hB,hN,k⟩:=h
 have hx:=hM.most
 have hy:=hN.most
 obtain⟨TA,dR,lA⟩:=id hA
 obtain⟨TB,oN,lB⟩:=id hB
 refine⟨_,(ak (bw (aq T.look_both fF (hr.mono (by first | decide | omega)) aL (aa (pv 0) (aa (pv 1) ah)))) (ak (bw (aq T.gA cO (hr.mono (by first | decide | omega)) aL (aa (av aP (aM (cC K) (by rfl) T.bM zBh (aa (aH (bg K) (pv 0) aj (λ_ _=>rfl)) ah)) (aM (cC K) (by rfl) T.bM zBh (aa (aH (bg K) (pv 1) aj (λ_ _=>rfl)) ah))) ah))) (aB (aX (bP (aa (av l_ (aH (bg K) (pv 0) aj (λ_ _=>rfl)) (aH (bg K) (pv 1) aj (λ_ _=>rfl))) (aa (aq T.oA jg (hr.mono (by first | decide | omega)) aL (aa (aq T.nD kI (hr.mono (by first | decide | omega)) aL (aa (aH (bg K) (pv 0) aj (λ_ _=>rfl)) (aa (aq T.kW gE (hr.mono (by first | decide | omega)) aL (aa (aH (bg K) (pv 1) aj (λ_ _=>rfl)) (aa (aM (cC K) (by rfl) T.bM zBh (aa (aH (bg K) (pv 0) aj (λ_ _=>rfl)) ah)) ah))) ah))) ah)) ah))))))),?_⟩
 refine d8 (bL (au (af (by rfl)) λ_ _=>aC (af (by rfl))) λH1 s1=>⟨a,b,x,y,ts,us,rfl,hA.same s1,hM.ou.sg,hB.same s1,hN.ou.sg,λH2 s2=>?_⟩)
 have s02:=s1.trans s2
 refine d8 (bL (aC (aS (bZ (K:=K) (aC (aO (K:=K) (af (by rfl)) (λ_ _=>ao) (s02.tup dR) (aG (j:=0) rfl))) (small (by omega))) λH3 s3=>bZ (K:=K) (aC (aO (K:=K) (af (by rfl)) (λ_ _=>ao) ((s02.trans s3).tup oN) (aG (j:=0) rfl))) (small (by omega)))) λH3 s3=>⟨_,rfl,by omega,λH4 s4=>?_⟩)
 have s04:=s02.trans (s3.trans s4)
 refine b9 (t7 (K:=K) (z:=x++y) (ok:=Made (B_ x.length ts us)) (tP (aO (K:=K) (af (by rfl)) (λ_ _=>ao) (s04.tup dR) (aG (j:=0) rfl)) (λH5 s5=>aO (K:=K) (af (by rfl)) (λ_ _=>ao) ((s04.trans s5).tup oN) (aG (j:=0) rfl)) (small (by omega))) (λH5 s5=>?_) λr H5 ws hr s5 sy o=>?_)
 ·have s05:=s04.trans s5
  exact once (vq (kF (aO (K:=K) (af (by rfl)) (λ_ _=>ao) (s05.tup dR) (aG (j:=1) rfl)) (lA.same s05)) (λH6 s6=>(vv (kF (aO (K:=K) (af (by rfl)) (λ_ _=>ao) ((s05.trans s6).tup oN) (aG (j:=1) rfl)) (lB.same (s05.trans s6))) (λH7 s7=>bZ (K:=K) (aC (aO (K:=K) (af (by rfl)) (λ_ _=>ao) ((s05.trans (s6.trans s7)).tup dR) (aG (j:=0) rfl))) (small (by omega))) hN.dQ.four).k) hM.dQ (eE hN).2).k (Ca hM hN).2
 ·exact k r H5 ws (s04.free hr) (s04.trans s5) sy (o.ou (by rw[kH]; omega) (B6 hM.ab hN.ab) (by rw[kH]; exact (Ca hM hN).1) (Ca hM hN).2.2) o.2
theorem wZ:aQ ["one","other","stood"] ["one","other"] (aI lI):=⟨rfl,rfl,rfl,by decide +kernel,rfl,by decide +kernel,by decide +kernel⟩
theorem Fo (T:Txt K mg t):bx P w K mg base cA 5 t.zk t.ow ["one","other"] (Pc K yj):=by
 have fF:=j8 (P:=P) (w:=w) (base:=base) T
 have cO:=gb (P:=P) (w:=w) (base:=base) T
 have jg:=nI (P:=P) (w:=w) (base:=base) T
 have gE:=kG (P:=P) (w:=w) (base:=base) T
 have kI:=oM (P:=P) (w:=w) (base:=base) T
 have gF:=pR (P:=P) (w:=w) (base:=base) T
 refine T.over_of.fn.ok wZ (λvs H Q E h=>?_) (λcdv A outer s H vs Q E hr h=>?_)
 ·obtain⟨a,b,x,y,ts,us,rfl,_⟩:=h
  rfl
 obtain⟨a,b,x,y,ts,us,rfl,hA,hM,hB,hN,k⟩:=h
 have hx:=hM.most
 have hy:=hN.most
 obtain⟨TA,dR,lA⟩:=id hA
 obtain⟨TB,oN,lB⟩:=id hB
 refine⟨_,(ak (bw (aq T.look_both fF (hr.mono (by first | decide | omega)) aL (aa (pv 0) (aa (pv 1) ah)))) (ak (bw (aq T.gA cO (hr.mono (by first | decide | omega)) aL (aa (av aP (aM (cC K) (by rfl) T.bM zBh (aa (aH (bg K) (pv 0) aj (λ_ _=>rfl)) ah)) (aM (cC K) (by rfl) T.bM zBh (aa (aH (bg K) (pv 1) aj (λ_ _=>rfl)) ah))) ah))) (ak (aN (i:=2) wZ.nd rfl (by first | exact Or.inl rfl | exact Or.inr rfl) (aq T.nD kI (hr.mono (by first | decide | omega)) aL (aa (aq T.jf gF (hr.mono (by first | decide | omega)) aL (aa (aH (bg K) (pv 0) aj (λ_ _=>rfl)) ah)) (aa (aq T.jf gF (hr.mono (by first | decide | omega)) aL (aa (aq T.kW gE (hr.mono (by first | decide | omega)) aL (aa (aH (bg K) (pv 1) aj (λ_ _=>rfl)) (aa (aM (cC K) (by rfl) T.bM zBh (aa (aH (bg K) (pv 0) aj (λ_ _=>rfl)) ah)) ah))) ah)) ah)))) (aB (aX (bP (aa (av l_ (aH (bg K) (pv 0) aj (λ_ _=>rfl)) (aH (bg K) (pv 1) aj (λ_ _=>rfl))) (aa (aq T.oA jg (hr.mono (by first | decide | omega)) aL (aa (aq T.jf gF (hr.mono (by first | decide | omega)) aL (aa (pv 2) ah)) ah)) ah)))))))),?_⟩
 refine d8 (bL (au (af (by rfl)) λ_ _=>aC (af (by rfl))) λH1 s1=>⟨a,b,x,y,ts,us,rfl,hA.same s1,hM.ou.sg,hB.same s1,hN.ou.sg,λH2 s2=>?_⟩)
 have s02:=s1.trans s2
 refine d8 (bL (aC (aS (bZ (K:=K) (aC (aO (K:=K) (af (by rfl)) (λ_ _=>ao) (s02.tup dR) (aG (j:=0) rfl))) (small (by omega))) λH3 s3=>bZ (K:=K) (aC (aO (K:=K) (af (by rfl)) (λ_ _=>ao) ((s02.trans s3).tup oN) (aG (j:=0) rfl))) (small (by omega)))) λH3 s3=>⟨_,rfl,by omega,λH4 s4=>?_⟩)
 have s04:=s02.trans (s3.trans s4)
 have s05:=s04
 refine bf (mJ (vq (nG (kF (aO (K:=K) (af (by rfl)) (λ_ _=>ao) (s05.tup dR) (aG (j:=1) rfl)) (lA.same s05)) hM.dQ.four).k (λH6 s6=>(nG (vv (kF (aO (K:=K) (af (by rfl)) (λ_ _=>ao) ((s05.trans s6).tup oN) (aG (j:=1) rfl)) (lB.same (s05.trans s6))) (λH7 s7=>bZ (K:=K) (aC (aO (K:=K) (af (by rfl)) (λ_ _=>ao) ((s05.trans (s6.trans s7)).tup dR) (aG (j:=0) rfl))) (small (by omega))) hN.dQ.four).k (eE hN).2.four).k) (yi hM.dQ) (yi (eE hN).2)) rfl λB Vj X5 Pd lS=>?_)
 have s14:=s04.trans Pd
 refine b9 (t7 (K:=K) (z:=x++y) (ok:=Made (yj x.length ts us)) (tP (aO (K:=K) (af (by rfl)) (λ_ _=>ao) (s14.tup dR) (aG (j:=0) rfl)) (λH5 s5=>aO (K:=K) (af (by rfl)) (λ_ _=>ao) ((s14.trans s5).tup oN) (aG (j:=0) rfl)) (small (by omega))) (λH5 s5=>?_) λr H5 ws hr s5 sy o=>?_)
 ·exact once (nG (kF (af (by rfl)) (lS.same s5)) (wY hM hN).2).k (Cb hM hN).2
 ·exact k r H5 ws (s14.free hr) (s14.trans s5) sy (o.ou (by rw[kH]; omega) (B6 hM.ab hN.ab) (by rw[kH]; exact (Cb hM hN).1) (Cb hM hN).2.2) o.2
noncomputable def RW (K:zzA)(f:List Int->List Int):Sp:=λvs H Q _=>∃(a:Addr) (x:Str) (ts:zzB),vs=[.ref a]/\dO K H a x ts/\In x ts/\∀r H' ws,H r=none->ai H H'->dO K H' r x ws->Ou x ws->(∀c,c∈ws↔c∈ts.map f)->Q (.ref r) H'
theorem qp {ws:zzB}(h:ws.Pairwise λa b=>HT.lexLt a b=true):ws.Nodup:=h.imp λ{a b} q e=>by
 subst e
 rw[lex_irrefl] at q
 cases q
theorem Fp {te:TE}{σ:L2.St}{H:Hp}{L:zzB}(h:Gk K te σ H L)(hk:jE L)(nd:L.Nodup)(R:VK)(r:∀p H2 ws,ai H H2->LT K H2 p ws->Made L ws->R (.ref p) H2):qz (vc K) (bE te cM) σ H R:=h _ λa H1 s1 l1=>by
 obtain⟨qs,q1,q2,rfl⟩:=l1
 have hl:=hk.2
 rw[y3] at hl
 refine⟨a,qs,rfl,aD.of q1,q2,λp hp e=>?_,nd,by omega,λl rs hl pm pw=>?_⟩
 ·have:=hk.1 p.2 (zA5 hp)
  rw[e] at this
  cases this
 ·have sl:=ai.new hl (.lst (rs.map rv))
  exact r l _ (rs.map (·.2)) (s1.trans sl) ⟨rs,aA,λq hq=>sl.tup (q2 q (pm.mem_iff.mp hq)),rfl⟩ ⟨by rw[zBk]; exact pw,λc=>(pm.map (·.2)).mem_iff⟩
theorem turned {x:Str}{ts:zzB}(hM:In x ts)(f:List Int->List Int)(hf:∀{n:Nat} {c:List Int},aU n c->aU n (f c))(hi:∀{n:Nat} {c:List Int},aU n c->f (f c)=c):(∀c∈ts.map f,aU x.length c)/\jE (ts.map f)/\(ts.map f).Nodup:=by
 have h:∀c∈ts.map f,aU x.length c:=λc hc=>by
  obtain⟨d,hd,rfl⟩:=x5.mp hc
  exact hf (hM.ok d hd)
 refine⟨h,⟨λc hc=>(h c hc).1,by rw[y3]; have:=hM.len; omega⟩,?_⟩
 rw[List.Nodup,zBk]
 exact (zC8.mp (qp hM.up)).imp λ{a b} ⟨ha,hb,ne⟩ e=>ne (by rw[←hi (hM.ok a ha),←hi (hM.ok b hb),e])
theorem My {n:Nat}{c:List Int}(h:aU n c):iU (iU c)=c:=by
 match c,h.1 with
 | [_,_,_,_],_=>rfl
theorem Mz {n:Nat}{c:List Int}(h:aU n c):qM (qM c)=c:=by
 match c,h.1 with
 | [_,_,_,_],_=>rfl
theorem yk:aQ ["system"] ["system"] (aI gu):=⟨rfl,rfl,rfl,by decide +kernel,rfl,by decide +kernel,by decide +kernel⟩
theorem ym (T:Txt K mg t):bx P w K mg base cA 4 t.qG t.jr ["system"] (RW K qM):=by
 have cU:=iO (P:=P) (w:=w) (base:=base) T
 have vz:=uh (P:=P) (w:=w) (base:=base) T
 refine T.uF.fn.ok yk (λvs H Q E h=>?_) (λcdv A outer s H vs Q E hr h=>?_)
 ·obtain⟨a,x,ts,rfl,_⟩:=h
  rfl
 obtain⟨a,x,ts,rfl,hA,hM,k⟩:=h
 obtain⟨TA,dR,lA⟩:=id hA
 obtain⟨g1,g2,g3⟩:=turned hM qM Pb Mz
 refine⟨_,(ak (bw (aq T.gJ cU (hr.mono (by first | decide | omega)) aL (aa (pv 0) ah))) (aB (aX (bP (aa (aH (bg K) (pv 0) aj (λ_ _=>rfl)) (aa (aM (vd K) (by rfl) T.kC boot_sorted (aa (aq T.pM vz (hr.mono (by first | decide | omega)) aL (aa (aH (bg K) (pv 0) aj (λ_ _=>rfl)) ah)) ah)) ah)))))),?_⟩
 refine d8 (bL (aC (af (by rfl))) λH1 s1=>⟨a,x,ts,rfl,hA.same s1,hM.ou.sg,λH2 s2=>?_⟩)
 have s02:=s1.trans s2
 refine b9 (t7 (K:=K) (z:=x) (ok:=Made (ts.map qM)) (aO (K:=K) (af (by rfl)) (λ_ _=>ao) (s02.tup dR) (aG (j:=0) rfl)) (λH5 s5=>Fp (nG (kF (aO (K:=K) (af (by rfl)) (λ_ _=>ao) ((s02.trans s5).tup dR) (aG (j:=1) rfl)) (lA.same (s02.trans s5))) hM.dQ.four).k g2 g3) λr H5 ws hr s5 sy o=>k r H5 ws (s02.free hr) (s02.trans s5) sy (o.ou hM.ou.most hM.ab g1 g2.2) o.2)
theorem w6:aQ ["system"] ["system"] (aI fR):=⟨rfl,rfl,rfl,by decide +kernel,rfl,by decide +kernel,by decide +kernel⟩
theorem w_ (T:Txt K mg t):bx P w K mg base cA 4 t.pK t.iL ["system"] (RW K iU):=by
 have cU:=iO (P:=P) (w:=w) (base:=base) T
 have gF:=pR (P:=P) (w:=w) (base:=base) T
 refine T.rZ.fn.ok w6 (λvs H Q E h=>?_) (λcdv A outer s H vs Q E hr h=>?_)
 ·obtain⟨a,x,ts,rfl,_⟩:=h
  rfl
 obtain⟨a,x,ts,rfl,hA,hM,k⟩:=h
 obtain⟨TA,dR,lA⟩:=id hA
 obtain⟨g1,g2,g3⟩:=turned hM iU Hs My
 refine⟨_,(ak (bw (aq T.gJ cU (hr.mono (by first | decide | omega)) aL (aa (pv 0) ah))) (aB (aX (bP (aa (aH (bg K) (pv 0) aj (λ_ _=>rfl)) (aa (aM (vd K) (by rfl) T.kC boot_sorted (aa (aq T.jf gF (hr.mono (by first | decide | omega)) aL (aa (aH (bg K) (pv 0) aj (λ_ _=>rfl)) ah)) ah)) ah)))))),?_⟩
 refine d8 (bL (aC (af (by rfl))) λH1 s1=>⟨a,x,ts,rfl,hA.same s1,hM.ou.sg,λH2 s2=>?_⟩)
 have s02:=s1.trans s2
 refine b9 (t7 (K:=K) (z:=x) (ok:=Made (ts.map iU)) (aO (K:=K) (af (by rfl)) (λ_ _=>ao) (s02.tup dR) (aG (j:=0) rfl)) (λH5 s5=>Fp (nG (kF (aO (K:=K) (af (by rfl)) (λ_ _=>ao) ((s02.trans s5).tup dR) (aG (j:=1) rfl)) (lA.same (s02.trans s5))) hM.dQ.four).k g2 g3) λr H5 ws hr s5 sy o=>k r H5 ws (s02.free hr) (s02.trans s5) sy (o.ou hM.ou.most hM.ab g1 g2.2) o.2)
end
set_option maxHeartbeats 1000000
noncomputable def jF (x y:Str)(i j:Nat):List (Nat × Nat):=((range j).filter λj=>decide (x.cps.getD i 0=y.cps.getD j 0)).map λj=>(i,j)
noncomputable def dm (x y:Str)(n:Nat):List (Nat × Nat):=(range n).flatMap λi=>jF x y i y.cps.size
theorem t9 {x y:Str}{i j:Nat}{p:Nat × Nat}:p∈jF x y i j↔p.1=i/\p.2 < j/\x.cps.getD i 0=y.cps.getD p.2 0:=by
 unfold jF
 constructor
 ·intro h
  obtain⟨k,hk,rfl⟩:=x5.mp h
  obtain⟨h1,h2⟩:=zAl.mp hk
  exact⟨rfl,zAq.mp h1,zAt h2⟩
 ·rintro⟨rfl,h1,h2⟩
  exact x5.mpr ⟨p.2,zAl.mpr ⟨zAq.mpr h1,zAm h2⟩,rfl⟩
theorem gK {x y:Str}{n:Nat}{p:Nat × Nat}:p∈dm x y n↔p.1 < n/\p.2 < y.cps.size/\x.cps.getD p.1 0=y.cps.getD p.2 0:=by
 unfold dm
 rw[zDm]
 constructor
 ·rintro⟨i,hi,hp⟩
  obtain⟨rfl,h1,h2⟩:=t9.mp hp
  exact⟨zAq.mp hi,h1,h2⟩
 ·rintro⟨h0,h1,h2⟩
  exact⟨p.1,zAq.mpr h0,t9.mpr ⟨rfl,h1,h2⟩⟩
theorem Ce {x y:Str}{i j:Nat}:jF x y i (j+1)=jF x y i j++if x.cps.getD i 0=y.cps.getD j 0 then [(i,j)] else []:=by
 unfold jF
 rw[zBp,zDa,v4]
 congr 1
 by_cases c:x.cps.getD i 0=y.cps.getD j 0
 ·rw[x4 c,zDo,x4 (zAm c)]; rfl
 ·rw[xL c,zDo,xL (λz=>c (zAt z))]; rfl
theorem Cf {x y:Str}{n:Nat}:dm x y (n+1)=dm x y n++jF x y n y.cps.size:=by
 unfold dm
 rw[zBp,zEb]
 simp
theorem DV {x y:Str}{i j:Nat}:(jF x y i j).length<=j:=by
 unfold jF
 rw[y3]
 exact zAu (zA1 _ _) (by rw[zBd]; exact x3 _)
theorem yo {x y:Str}{n:Nat}:(dm x y n).length<=n * y.cps.size:=by
 have:=fE (f:=λi=>jF x y i y.cps.size) (b:=y.cps.size) (cs:=range n) λi _=>DV
 rwa [zBd] at this
abbrev gG (i j:Int):Dt:=.tup [.int i,.int j]
def gQ (M:List (Nat × Nat)):List (Dt × V):=M.zipIdx.map λq=>(gG q.1.1 q.1.2,V.int (q.2:Int))
theorem Hw {M:List (Nat × Nat)}{p:Nat × Nat}:gQ (M++[p])=gQ M++[(gG p.1 p.2,.int (M.length:Int))]:=by
 unfold gQ
 rw[List.zipIdx_append,v4]
 simp
theorem kJ {M:List (Nat × Nat)}:(gQ M).length=M.length:=by unfold gQ; simp
theorem vA {M:List (Nat × Nat)}{z:Dt × V}(h:z∈gQ M):∃p∈M,z.1=gG p.1 p.2:=by
 unfold gQ at h
 obtain⟨q,hq,rfl⟩:=x5.mp h
 exact⟨q.1,List.fst_mem_of_mem_zipIdx hq,rfl⟩
theorem yp {K:zzA}{H:Hp}{a:Addr}{i j:Int}(h:aJ K H a [.int i,.int j]):NK K H (gG i j) a:=NK.of h (by
 unfold aF
 refine⟨_,_,rfl,by unfold Rep; rfl,?_⟩
 unfold aF
 refine⟨_,_,rfl,by unfold Rep; rfl,?_⟩
 unfold aF
 rfl) rfl (zAw _)
theorem Cg {x:Str}(h:∀c∈x.cps.toList,c=97\/c=98):x.cps.all (· < 128)=true:=by
 rw[←Array.all_toList]
 exact zC2.mpr λc hc=>by rcases h c hc with rfl | rfl <;> decide
section
variable {P:Program}{w:World}{K:zzA}{mg:Str->Option Value}{base:Heap}{t:Ad}
theorem MA {σ:L2.St}{H:Hp}{te:TE}{a:Addr}{ks:List (Dt × V)}(h:Gv te σ H (.ref a))(hn:c_ K P w H a ks)(hz:ks.length<=100000):Gv (qz (KY K P w) (bE te cM)) σ H (.int ks.length):=λR r=>h _ λH1 s1=>⟨a,ks,rfl,hn.same s1,by rw[zAk]; omega,r H1 s1⟩
theorem Hz {a b:Nat}:decide (V.str ⟨#[a]⟩=V.str ⟨#[b]⟩)=decide (a=b):=by
 by_cases e:a=b
 ·subst e; simp
 ·rw[zAv e,zAv]
  intro z
  have:=V.str.inj z
  injection this with h1
  have:=zA3 (λq:Array Nat=>q[0]!) h1
  exact e (by simpa using this)
noncomputable def JG (K:zzA)(P:Program)(w:World):Sp:=λvs H Q _=>∃x y:Str,vs=[.str x,.str y]/\x.length<=2/\y.length<=2/\(∀c∈x.cps.toList,c=97\/c=98)/\(∀c∈y.cps.toList,c=97\/c=98)/\∀p H',H p=none->ai H H'->c_ K P w H' p (gQ (dm x y x.cps.size))->Q (.ref p) H'
theorem cQ:aQ ["one","other","found","left","letter","right","other_letter"] ["one","other"] (aI eB):=⟨rfl,rfl,rfl,by decide +kernel,rfl,by decide +kernel,by decide +kernel⟩
theorem um (T:Txt K mg t):bx P w K mg base cA 1 t.nC t.f_ ["one","other"] (JG K P w):=by
 refine T.pN.fn.ok cQ (λvs H Q E h=>?_) (λcdv A outer s H vs Q E hr h=>?_)
 ·obtain⟨x,y,rfl,_⟩:=h
  rfl
 obtain⟨x,y,rfl,hx,hy,ax,ay,k⟩:=h
 have hx':x.cps.size<=2:=hx
 have hy':y.cps.size<=2:=hy
 refine⟨_,(ak (aN (i:=2) cQ.nd rfl (by first | exact Or.inl rfl | exact Or.inr rfl) (Q7 K P w)) (ak (b_ zA2 rfl (Bx T.uG (aa (pv 0) ah)) (wm K (n:=2) (cL (aE (i:=3) cQ.nd rfl (by first | exact Or.inl rfl | exact Or.inr rfl)) (cL (aE (i:=4) cQ.nd rfl (by first | exact Or.inl rfl | exact Or.inr rfl)) o7))) (aB (b_ zA2 rfl (Bx T.uG (aa (pv 1) ah)) (wm K (n:=2) (cL (aE (i:=5) cQ.nd rfl (by first | exact Or.inl rfl | exact Or.inr rfl)) (cL (aE (i:=6) cQ.nd rfl (by first | exact Or.inl rfl | exact Or.inr rfl)) o7))) (aB (fX (cG jP (pv 4) (pv 6) (cj _)) (aB (KW K P w hr.GN (pv 2) (bP (aa (pv 3) (aa (pv 5) ah))) (aM (Q8 K P w) (by rfl) T.bM zBh (aa (pv 2) ah)) rfl)) dw))))) (aB (aX (pv 2))))),?_⟩
 refine bf λF o0 hF n0=>?_
 have sF:ai H (upd H F o0):=ai.new hF o0
 generalize upd H F o0=H0 at n0 sF
 refine Mg (aC (af (by rfl))) (Cg ax)
  (λi σ H1=>∃e3 e4 e5 e6:Option V,σ=[some (.str x),some (.str y),some (.ref F),e3,e4,e5,e6]/\ai H H1/\c_ K P w H1 F (gQ (dm x y i)))
  (λH1 s1=>⟨none,none,none,none,rfl,sF.trans s1,n0.same s1⟩) (λi σ H1 tp hi hP htp=>?_) fun σ H1 hP=>?_
 ·obtain⟨e3,e4,e5,e6,rfl,s1,n1⟩:=hP
  have sT:=ai.new htp (.tup [.int (i:Int),ff x i])
  have n1:=n1.same sT
  have s1:=s1.trans sT
  generalize upd H1 tp (.tup [.int (i:Int),ff x i])=H2 at n1 s1
  refine Dz (aC (af (by rfl))) (Cg ay)
   (λj σ H3=>∃e5 e6:Option V,σ=[some (.str x),some (.str y),some (.ref F),some (.int (i:Int)),some (ff x i),e5,e6]/\ai H H3/\c_ K P w H3 F (gQ (dm x y i++jF x y i j)))
   (λH3 s3=>⟨e5,e6,rfl,s1.trans s3,by
    have e:jF x y i 0=[]:=rfl
    rw[e,zBc]
    exact n1.same s3⟩) (λj σ H3 tq hj hP Vk=>?_) fun σ H3 hP=>?_
  ·obtain⟨e5,e6,rfl,s3,n3⟩:=hP
   have sQ:=ai.new Vk (.tup [.int (j:Int),ff y j])
   have n3:=n3.same sQ
   have s3:=s3.trans sQ
   generalize upd H3 tq (.tup [.int (j:Int),ff y j])=H4 at n3 s3
   have hlen:(gQ (dm x y i++jF x y i j)).length<=100:=by
    rw[kJ,zAb]
    have h1:=yo (x:=x) (y:=y) (n:=i)
    have h2:=DV (x:=x) (y:=y) (i:=i) (j:=j)
    have h3:i * y.cps.size<=2 * 2:=mul_le_mul (by omega) hy'
    omega
   refine i8 (b:=decide (x.cps.getD i 0=y.cps.getD j 0)) (gT (dZ (i7 (af (by rfl)) (λ_ _=>af (by rfl)) (by rfl))) Hz) (λc H5 s5=>?_) λc H5 s5=>?_
   ·have c:=zAt c
    refine (MA (af (by rfl)) (n3.same s5) (by omega)) _ λH6 s6=>(af (v:=.ref F) (by rfl)) _ λH7 s7=>(dN (K:=K) (au (af (v:=.int (i:Int)) (by rfl)) λ_ _=>aC (af (v:=.int (j:Int)) (by rfl))) (by show 2<=sizeLine; decide)) _ λq H8 s8 hq=>?_
    have s58:=s5.trans (s6.trans (s7.trans s8))
    refine⟨F,rfl,_,gG i j,q,n3.same s58,by rw[zAk]; omega,rfl,yp hq,λz hz e=>?_,λo n8 mu=>⟨_,_,rfl,(s3.trans s58).put hF o,?_⟩⟩
    ·obtain⟨p,hp,e2⟩:=vA hz
     rw[e2] at e
     injection e with e
     injection e with e3 e4
     injection e4 with e4 _
     injection e3 with e3
     injection e4 with e4
     rcases wT.mp hp with h | h
     ·have:=(gK.mp h).1
      omega
     ·have:=(t9.mp h).2.1
      omega
    ·rw[Ce,x4 c,←zA4,Hw]
     rw[kJ] at n8
     exact n8
   ·have c:=of_decide_eq_false c
    refine⟨_,_,rfl,s3.trans s5,?_⟩
    rw[Ce,xL c,zBc]
    exact n3.same s5
  ·obtain⟨e5,e6,rfl,s3,n3⟩:=hP
   refine⟨_,_,_,_,rfl,s3,?_⟩
   rw[Cf]
   exact n3
 ·obtain⟨e3,e4,e5,e6,rfl,s1,n1⟩:=hP
  exact dJ (af (v:=.ref F) (by rfl)) λH2 s2=>k F H2 hF (s1.trans s2) (n1.same s2)
def jh (x:Str)(f:Int):Dt:=if f=-1 then .bq else .str ⟨#[x.cps.getD f.toNat 0]⟩
noncomputable def xg (x:Str)(f:Int):V:=if f=-1 then .bq else .str ⟨#[x.cps.getD f.toNat 0]⟩
noncomputable def MB (K:zzA):Sp:=λvs H Q _=>∃(x:Str) (a:Addr) (c:List Int),vs=[.str x,.ref a]/\x.length<=60/\aJ K H a (c.map V.int)/\aU x.length c/\∀p H',ai H H'->aJ K H' p (c.map (xg x))->Q (.ref p) H'
theorem Fq:aQ ["letters","tile"] ["letters","tile"] (aI lC):=⟨rfl,rfl,rfl,by decide +kernel,rfl,by decide +kernel,by decide +kernel⟩
theorem xh (T:Txt K mg t):bx P w K mg base cA 1 t.zf t.n_ ["letters","tile"] (MB K):=by
 refine T.xV.fn.ok Fq (λvs H Q E h=>?_) (λcdv A outer s H vs Q E hr h=>?_)
 ·obtain⟨x,a,c,rfl,_⟩:=h
  rfl
 obtain⟨x,a,c,rfl,hx,hq,⟨h4,hc⟩,k⟩:=h
 refine⟨_,(aB (aX (eZ (wA K) (by rfl) T.tV boot_tuple (aa (bz (N':=["field","letters"]) (ix:=[none,some 0]) (aK (by kernel_rfl)) rfl (Aj K (pv 1)) (λ_ _ _ _=>(aE (i:=0) (show List.Nodup (["field","letters"]:List Str) from by decide +kernel) rfl (by first | exact Or.inl rfl | exact Or.inr rfl))) (λ_ _ _ _=>bJ) (λ_ _ _ _=>(uV (cG jP (pv 0) (c8 rfl T.ku T.kB) (cj _)) Ni (aH lg (pv 1) (pv 0) (λ_ _=>rfl))))) ah)))),?_⟩
 refine b9 (ng (Bm (K:=K) (af (by rfl)) hq λH2 s2 hq2=>nt (KP (xg x)) hq2 (small (by rw[y3]; omega)) (λi v H3 R3 hv s3 k3=>?_) λD H3 hD s3 aV=>?_))
 ·obtain⟨f,rfl,hf,_⟩:=kE hv
  have hfr:=hc f hf
  refine dh (v:=xg x f) (Ks (p:=decide (f=-1)) (gT (dZ (i7 (af (by rfl)) (λ_ _=>ao) (by rfl))) (by simp)) (λz H4 s4=>?_) λz H4 s4=>?_) λH4 s4=>k3 H4 s4
  ·exact bA ao (by unfold xg; rw[x4 (zAt z)])
  ·have z:=of_decide_eq_false z
   obtain⟨n,rfl⟩:∃n:Nat,f=n:=⟨f.toNat,by omega⟩
   have hn:n < x.cps.size:=by have:=hfr.2; show n < x.length; omega
   exact bA (lu (af (by rfl)) (λ_ _=>af (by rfl)) (small (by omega)) (aG (v:=x.cps.getD n 0) (by rw[zAc,kS hn,zA0,kS hn]; rfl))) (by unfold xg; rw[xL z]; rfl)
 ·rw[x8] at aV
  exact⟨D,_,rfl,.inl ⟨aD.of aV,λl hl=>k l _ (s2.trans (s3.trans (ai.new hl _))) (aJ.of aA)⟩⟩
end
set_option maxHeartbeats 1000000
abbrev cF (x:Str) (c:List Int):Dt:=.tup (c.map (jh x))
section
variable {P:Program}{w:World}{K:zzA}{mg:Str->Option Value}{base:Heap}{t:Ad}
theorem DW {H:Hp}{a:Addr}{x:Str}(ax:∀c∈x.cps.toList,c=97\/c=98){c:List Int}(hc:aU x.length c)(h:aJ K H a (c.map (xg x))):NK K H (cF x c) a:=by
 have r:∀c:List Int,aF K H (c.map (jh x)) (c.map (xg x)):=λc=>by
  induction c with
  | nil=>show aF K H [] []; unfold aF; rfl
  | cons f c ih=>
   show aF K H (jh x f::_) (xg x f::_)
   unfold aF
   refine⟨_,_,rfl,?_,ih⟩
   unfold jh xg
   split <;> (unfold Rep; rfl)
 have n:∀c:List Int,(∀f∈c,-1<=f/\f < x.length)->fC (c.map (jh x))=true/\fj (c.map (jh x))=0:=λc=>by
  induction c with
  | nil=>exact λ_=>⟨rfl,rfl⟩
  | cons f c ih=>
   intro h
   obtain⟨i1,i2⟩:=ih λg hg=>h g (zAr _ hg)
   have hf:=h f zAs
   show (fV (jh x f)&&fC _)=true/\max (nv (jh x f)) _=0
   rw[i1,i2]
   unfold jh
   split
   ·exact⟨rfl,rfl⟩
   ·refine⟨?_,rfl⟩
    rw[Bool.and_true]
    have hlt:f.toNat < x.cps.size:=by show f.toNat < x.length; omega
    have e:x.cps.getD f.toNat 0=x.cps[f.toNat]:=by rw[zA0,kS hlt]; rfl
    rcases ax (x.cps.getD f.toNat 0) (by rw[e]; exact Array.getElem_mem_toList hlt) with z | z <;> (rw[z]; simp [fV,PyData.strOk])
 exact NK.of h (r c) (n c hc.2).1 (by rw[(n c hc.2).2]; exact zAw _)
noncomputable def Tz (K:zzA)(P:Program)(w:World)(H:Hp)(p:Addr)(y:Str)(us:zzB):Prop:=∃m n,gO K P w H p m n/\(∀φ,m φ=none->∀c∈us,cF y c≠φ)/\∀φ v,m φ=some v->∃l,v=.ref l/\LT K H l (us.filter λc=>decide (cF y c=φ))
noncomputable def Rg (K:zzA)(P:Program)(w:World):Sp:=λvs H Q _=>∃(a:Addr) (y:Str) (us:zzB),vs=[.ref a]/\dO K H a y us/\In y us/\∀p H',H p=none->ai H H'->Tz K P w H' p y us->Q (.ref p) H'
theorem Pe {H:Hp}{l l':Addr}{cs:zzB}{ws:List V}{o:HO}(h:LT K H l' cs)(hne:l'≠l)(hl:H l=some (.lst ws)):LT K (upd H l o) l' cs:=let ⟨qs,h1,h2,h3⟩:=h; ⟨qs,by rw[aT hne]; exact h1,λq hq=>cP (h2 q hq) hl,h3⟩
theorem zD {us:zzB}{i:Nat}{c:List Int}(hi:us[i]?=some c)(b:List Int->Bool):(us.take (i+1)).filter b=(us.take i).filter b++if b c=true then [c] else []:=by
 rw[zBv,hi,zDa]
 congr 1
 by_cases z:b c=true
 ·rw[x4 z]; simp only [toList]; rw[zDo,x4 z,List.filter_nil]
 ·rw[xL z]; simp only [toList]; rw[zDo,xL z,List.filter_nil]
theorem jG:aQ ["system","found","tile"] ["system"] (aI fq):=⟨rfl,rfl,rfl,by decide +kernel,rfl,by decide +kernel,by decide +kernel⟩
theorem vB (T:Txt K mg t):bx P w K mg base cA 2 t.oh t.gW ["system"] (Rg K P w):=by
 have sI:=xh (P:=P) (w:=w) (base:=base) T
 refine T.qL.fn.ok jG (λvs H Q E h=>?_) (λcdv A outer s H vs Q E hr h=>?_)
 ·obtain⟨a,y,us,rfl,_⟩:=h
  rfl
 obtain⟨a,y,us,rfl,hA,hN,k⟩:=h
 obtain⟨TA,dR,lA⟩:=id hA
 have hy:=hN.most
 refine⟨_,(ak (aN (i:=1) jG.nd rfl (by first | exact Or.inl rfl | exact Or.inr rfl) (QT K P w)) (ak (b_ zA2 rfl (bN K (aH (bg K) (pv 0) aj (λ_ _=>rfl))) (aE (i:=2) jG.nd rfl (by first | exact Or.inl rfl | exact Or.inr rfl)) (aB (bw (jT K zA6 zBi zBj cT (QU K P w hr.GN (pv 1) (aq T.xV sI (hr.mono (by first | decide | omega)) aL (aa (aH (bg K) (pv 0) aj (λ_ _=>rfl)) (aa (pv 2) ah))) (bQ ah) ⟨rfl,rfl,rfl,rfl⟩) (aa (pv 2) ah))))) (aB (aX (pv 1))))),?_⟩
 refine bf λF o0 hF n0=>?_
 have sF:ai H (upd H F o0):=ai.new hF o0
 have Vl:∃o,upd H F o0 F=some o:=⟨_,aA⟩
 generalize upd H F o0=H0 at n0 sF Vl
 obtain⟨qs,q1,q2,q3⟩:=lA
 have hl:us.length=qs.length:=by rw[←q3,y3]
 refine mT (K:=K) (xs:=qs.map rv) (aO (K:=K) (af (by rfl)) (λ_ _=>ao) (sF.tup dR) (aG (j:=1) rfl)) (aD.of (sF _ _ q1))
  (λi σ H1=>∃e2:Option V,σ=[some (.ref a),some (.ref F),e2]/\ai H H1/\∃m n,gO K P w H1 F m n/\n<=i/\(∀φ,m φ=none->∀c∈us.take i,cF y c≠φ)/\(∀φ v,m φ=some v->∃l,v=.ref l/\H l=none/\l≠F/\LT K H1 l ((us.take i).filter λc=>decide (cF y c=φ)))/\∀φ ψ v,m φ=some v->m ψ=some v->φ=ψ)
  (λH1 s1=>⟨none,rfl,sF.trans s1,_,_,n0.same s1,x3 _,fun φ _ c hc=>absurd hc (by simp),fun φ v e=>absurd e (by simp),fun φ ψ v e=>absurd e (by simp)⟩) (λi σ H1 hP=>by obtain⟨_,_,s1,_⟩:=hP; exact aD.of (s1 _ _ q1)) (λi v σ H1 hv hP=>?_) fun σ H1 hP=>?_
 ·obtain⟨e2,rfl,s1,m,n,nm,hn,f1,f2,f3⟩:=hP
  obtain⟨q,lV,rfl,cD⟩:=j7 hv
  rw[q3] at cD
  have iV:=zAj cD
  have hil:=(zAp.mp cD).1
  have hlen:=hN.len
  generalize hcc:q.2=c at cD iV
  have Ci:aJ K H q.1 (c.map V.int):=hcc ▸ q2 q lV
  dsimp only [bC]
  refine jC ?_
  dsimp only [yV,Kz]
  refine (af (v:=.ref F) (by rfl)) _ λH2 s2=>⟨F,rfl,⟨m,n,nm.same s2⟩,?_⟩
  refine bL (au (aO (K:=K) (af (by rfl)) (λ_ _=>ao) ((s1.trans s2).tup dR) (aG (j:=0) rfl)) λ_ _=>aC (af (v:=.ref q.1) (by rfl))) λH4 s3=>⟨y,q.1,c,rfl,by omega,(s1.trans (s2.trans s3)).tup Ci,hN.ok c iV,λp H5 s5 hp=>?_⟩
  have s15:=s2.trans (s3.trans s5)
  refine (sE (K:=K)) _ λEa H6 hE s6 l6=>?_
  have s16:=s15.trans s6
  have nm6:=nm.same s16
  obtain⟨oF,eF⟩:∃o,H5 F=some o:=by
   obtain⟨ds,e,_⟩:=nm.same s15
   exact⟨_,e⟩
  have RX:Ea≠F:=λz=>by rw[z,eF] at hE; cases hE
  have Vm:H Ea=none:=(s1.trans s15).free hE
  have nk:=DW hN.ab (hN.ok c iV) (s6.tup hp)
  have stp:∀(H7:Hp) (l:Addr) (m':Dt->Option V) (n':Nat),ai H H7->gO K P w H7 F m' n'->n'<=i+1->H l=none->l≠F->m' (cF y c)=some (.ref l)->(∀φ,φ≠cF y c->m' φ=m φ)->LT K H7 l ((us.take i).filter λd=>decide (cF y d=cF y c))->(∀φ v,φ≠cF y c->m φ=some v->v≠.ref l)->(∀φ v,φ≠cF y c->m φ=some v->∃l',v=.ref l'/\H l'=none/\l'≠F/\LT K H7 l' ((us.take i).filter λd=>decide (cF y d=φ)))->
    ∀ws,H7 l=some (.lst ws)->∃e2:Option V,[some (V.ref a),some (.ref F),some (.ref q.1)]=[some (.ref a),some (.ref F),e2]/\ai H (upd H7 l (.lst (ws++[.ref q.1])))/\∃m n,gO K P w (upd H7 l (.lst (ws++[.ref q.1]))) F m n/\n<=i+1/\(∀φ,m φ=none->∀c∈us.take (i+1),cF y c≠φ)/\(∀φ v,m φ=some v->∃l',v=.ref l'/\H l'=none/\l'≠F/\LT K (upd H7 l (.lst (ws++[.ref q.1]))) l' ((us.take (i+1)).filter λc=>decide (cF y c=φ)))/\∀φ ψ v,m φ=some v->m ψ=some v->φ=ψ:=λH7 l m' n' s7 nm7 Vn Cj RY e1 e2 Vo ne7 Vp ws hw=>by
   refine⟨_,rfl,s7.put Cj _,m',n',nm7.keep (aT (Ne.symm RY)) (λq xs h=>cP h hw),Vn,fun φ e d hd z=>?_,fun φ v e=>?_,fun φ ψ v e e'=>?_⟩
   ·by_cases c1:φ=cF y c
    ·rw[c1,e1] at e; cases e
    ·rw[e2 φ c1] at e
     rw[zBv,cD] at hd
     rcases wT.mp hd with h | h
     ·exact f1 φ e d h z
     ·have:d=c:=by simpa using h
      rw[this] at z
      exact c1 z.symm
   ·by_cases c1:φ=cF y c
    ·subst c1
     rw[e1] at e
     cases e
     refine⟨l,rfl,Cj,RY,?_⟩
     rw[zD cD,x4 (zAm rfl)]
     exact Vo.snoc (s7.tup Ci) hw
    ·rw[e2 φ c1] at e
     obtain⟨l',g1,g2,g3,g4⟩:=Vp φ v c1 e
     refine⟨l',g1,g2,g3,?_⟩
     rw[zD cD,xL (λz=>c1 (zAt z).symm),zBc]
     exact Pe g4 (λz=>ne7 φ v c1 e (by rw[g1,z])) hw
   ·by_cases c1:φ=cF y c
    ·by_cases c2:ψ=cF y c
     ·rw[c1,c2]
     ·rw[c1,e1] at e
      rw[e2 ψ c2] at e'
      exact absurd (zAh e).symm (ne7 ψ v c2 e')
    ·by_cases c2:ψ=cF y c
     ·rw[c2,e1] at e'
      rw[e2 φ c1] at e
      exact absurd (zAh e').symm (ne7 φ v c1 e)
     ·rw[e2 φ c1] at e
      rw[e2 ψ c2] at e'
      exact f3 φ ψ v e e'
  refine⟨m,n,cF y c,p,nm6,by rw[zAk]; omega,rfl,nk,λz ez=>?_,λen o nm7=>?_⟩
  ·obtain⟨l,rfl,g2,g3,g4⟩:=f2 _ _ ez
   obtain⟨rs,r1,r2,r3⟩:=g4.same s16
   refine⟨.inl ⟨rfl,_,aD.of r1⟩,(af (v:=.ref q.1) (by rfl)) _ λH7 s7=>⟨l,rs.map rv,.ref q.1,rfl,rfl,s7 _ _ r1,?_,?_⟩⟩
   ·have:rs.length<=60:=by
     have e:=zA3 length r3
     rw[y3] at e
     rw[e]
     refine zAu (zA1 _ _) ?_
     rw[zA9]
     omega
    rw[y3,zAk]
    omega
   ·exact stp H7 l m n (s1.trans (s16.trans s7)) (nm6.same s7) (by omega) g2 g3 ez (λ_ _=>rfl) (g4.same (s16.trans s7)) (fun φ v c1 e e'=>c1 (f3 φ _ v e (by rw[e']; exact ez))) (fun φ v c1 e=>by
     obtain⟨l',h1,h2,h3,h4⟩:=f2 φ v e
     exact⟨l',h1,h2,h3,h4.same (s16.trans s7)⟩) _ (s7 _ _ r1)
  ·have mu:=nm6.mut
   obtain⟨rs,r1,r2,r3⟩:=l6
   have e0:rs=[]:=by simpa using r3
   subst e0
   have up:∀{l':Addr} {cs:zzB},LT K H6 l' cs->l'≠F->LT K (upd H6 F o) l' cs:=λ{l' cs} h hne=>let ⟨qs,h1,h2,h3⟩:=h; ⟨qs,by rw[aT hne]; exact h1,λq hq=>mS mu (h2 q hq),h3⟩
   have r1':upd H6 F o Ea=some (.lst []):=by rw[aT RX]; exact r1
   refine⟨.inl ⟨rfl,_,aD.of r1'⟩,(af (v:=.ref q.1) (by rfl)) _ λH7 s7=>⟨Ea,[],.ref q.1,rfl,rfl,s7 _ _ r1',(by decide),?_⟩⟩
   have s06:ai H (upd H6 F o):=(s1.trans s16).put hF o
   refine stp H7 Ea _ (n+1) (s06.trans s7) (nm7.same s7) (by omega) Vm RX (x4 rfl) (fun φ c1=>xL c1) ?_ (fun φ v c1 e e'=>?_) (fun φ v c1 e=>?_) _ (s7 _ _ r1')
   ·have:(us.take i).filter (λd=>decide (cF y d=cF y c))=[]:=List.filter_eq_nil_iff.mpr λd hd z=>f1 _ en d hd (zAt z)
    rw[this]
    exact⟨[],s7 _ _ r1',λ_ hq=>absurd hq (by simp),rfl⟩
   ·obtain⟨l',h1,h2,h3,h4⟩:=f2 φ v e
    rw[h1] at e'
    cases e'
    obtain⟨_,z,_⟩:=h4.same s15
    rw[hE] at z
    cases z
   ·obtain⟨l',h1,h2,h3,h4⟩:=f2 φ v e
    exact⟨l',h1,h2,h3,(up (h4.same s16) h3).same s7⟩
 ·obtain⟨e2,rfl,s1,m,n,nm,hn,f1,f2,f3⟩:=hP
  refine dJ (af (v:=.ref F) (by rfl)) λH2 s2=>k F H2 hF (s1.trans s2) ⟨m,n,nm.same s2,?_,?_⟩
  ·rw[y3,←hl,zBb] at f1
   exact f1
  ·intro φ v e
   obtain⟨l,h1,h2,h3,h4⟩:=f2 φ v e
   rw[y3,←hl,zBb] at h4
   exact⟨l,h1,h4.same s2⟩
end
set_option maxHeartbeats 1000000
noncomputable def lW (M:List (Nat × Nat))(f g:Int):Int:=if f=-1 then -1 else (M.idxOf (f.toNat,g.toNat):Int)
noncomputable def pS (M:List (Nat × Nat))(c d:List Int):List Int:=(range 4).map λi=>lW M (c.getD i 0) (d.getD i 0)
abbrev K_ (M:List (Nat × Nat)):List (Dt × V):=gQ M++[(gG (-1) (-1),.int (-1))]
theorem yq {i j k l:Int}(e:gG i j=gG k l):i=k/\j=l:=by
 injection e with e
 injection e with e3 e4
 injection e4 with e4 _
 injection e3 with e3
 injection e4 with e4
 exact⟨e3,e4⟩
theorem JI {M:List (Nat × Nat)}{E:List (Dt × V)}{i j:Nat}:∀(n:Nat),(i,j)∈M->qm ((M.zipIdx n).map (λq=>(gG q.1.1 q.1.2,V.int (q.2:Int)))++E) (gG i j)=some (.int ((n+M.idxOf (i,j):Nat):Int)):=by
 induction M with
 | nil=>intro n h; cases h
 | cons p M ih=>
  intro n h
  obtain⟨a,b⟩:=p
  unfold qm
  rw[List.zipIdx_cons,zAo,List.cons_append,find?_cons]
  by_cases c:(a,b)=(i,j)
  ·have ha:a=i:=zA3 Prod.fst c
   have hb:b=j:=zA3 Prod.snd c
   subst ha hb
   rw[zAm rfl]
   have:((a,b)::M).idxOf (a,b)=0:=List.idxOf_cons_self
   rw[this]
   rfl
  ·have ne:¬ gG (a:Int) (b:Int)=gG (i:Int) (j:Int):=λz=>c (by
    obtain⟨z1,z2⟩:=yq z
    rw[Int.ofNat_inj.mp z1,Int.ofNat_inj.mp z2])
   rw[zAv ne]
   have hm:(i,j)∈M:=by
    rcases wS.mp h with z | z
    ·exact absurd z.symm c
    ·exact z
   have:=ih (n+1) hm
   unfold qm at this
   refine this.trans ?_
   have e:((a,b)::M).idxOf (i,j)=M.idxOf (i,j)+1:=by
    rw[List.idxOf_cons,show ((a,b) == (i,j))=false from by simpa using c]
    rfl
   rw[e]
   congr 3
   omega
theorem HA {M:List (Nat × Nat)}:qm (K_ M) (gG (-1) (-1))=some (.int (-1)):=by
 unfold qm K_
 rw[List.find?_append,List.find?_eq_none.mpr λz hz=>?_]
 ·simp
 ·obtain⟨p,_,e⟩:=vA hz
  rw[e]
  have:¬ gG (p.1:Int) (p.2:Int)=gG (-1) (-1):=λz=>by have:=(yq z).1; omega
  simpa using this
theorem MC {M:List (Nat × Nat)}{f g:Int}(h:(f=-1/\g=-1)\/∃i j:Nat,f=i/\g=j/\(i,j)∈M):qm (K_ M) (gG f g)=some (.int (lW M f g)):=by
 rcases h with ⟨rfl,rfl⟩ | ⟨i,j,rfl,rfl,hm⟩
 ·rw[HA]; rfl
 ·have:=JI (E:=[(gG (-1) (-1),V.int (-1))]) 0 hm
  unfold lW
  rw[xL (by omega),zAg,zAg]
  unfold K_ gQ
  rw[this,Nat.zero_add]
theorem HB {x y:Str}{i j:Nat}:(jF x y i j).Nodup:=by
 unfold jF
 rw[List.Nodup,zBk]
 exact (List.Pairwise.filter _ List.nodup_range).imp λ{a b} ne e=>ne (zA3 Prod.snd e)
theorem sJ {x y:Str}:∀n,(dm x y n).Nodup
 | 0=>nodup_nil
 | n+1=>by
  rw[Cf,zB5]
  refine⟨sJ n,HB,λp hp q hq e=>?_⟩
  have h1:=(gK.mp hp).1
  have h2:=(t9.mp hq).1
  rw[e] at h1
  omega
theorem pT {x y:Str}{c d:List Int}(hc:aU x.length c)(hd:aU y.length d)(e:cF y d=cF x c):∀i,i < 4->(c.getD i 0=-1/\d.getD i 0=-1)\/∃p q:Nat,c.getD i 0=p/\d.getD i 0=q/\(p,q)∈dm x y x.cps.size:=by
 intro i hi
 have e:=Dt.tup.inj e
 have DL:i < c.length:=by rw[hc.1]; exact hi
 have hdi:i < d.length:=by rw[hd.1]; exact hi
 have e2:=zA3 (λl=>l[i]?) e
 simp only [wP,xI DL,xI hdi,Option.map_some] at e2
 have e2:=zAh e2
 have gc:c.getD i 0=c[i]:=by rw[y4,xI DL]; rfl
 have gd:d.getD i 0=d[i]:=by rw[y4,xI hdi]; rfl
 rw[gc,gd]
 have h1:=hc.2 c[i] (zB9 DL)
 have h2:=hd.2 d[i] (zB9 hdi)
 generalize c[i]=f at *
 generalize d[i]=g at *
 unfold jh at e2
 by_cases cf:f=-1
 ·rw[x4 cf] at e2
  by_cases cg:g=-1
  ·exact .inl ⟨cf,cg⟩
  ·rw[xL cg] at e2; cases e2
 ·rw[xL cf] at e2
  by_cases cg:g=-1
  ·rw[x4 cg] at e2; cases e2
  ·rw[xL cg] at e2
   refine .inr ⟨f.toNat,g.toNat,by omega,by omega,gK.mpr ⟨?_,?_,?_⟩⟩
   ·show f.toNat < x.length; omega
   ·show g.toNat < y.length; omega
   ·have e3:=Dt.str.inj e2
    injection e3 with e3
    have:=zA3 (λq:Array Nat=>q[0]!) e3
    simpa using this.symm
noncomputable def gR (x y:Str) (ts us:zzB):zzB:=ts.flatMap λc=>(us.filter λd=>decide (cF y d=cF x c)).map λd=>pS (dm x y x.cps.size) c d
noncomputable def hp (i j:Int):Int:=reduceHash (tupleHashOf [hashInt i,hashInt j])
theorem DX {P:Program}{w:World}(i j:Int):jU P w (gG i j)=hp i j:=by
 simp only [jU,mR]
 rfl
theorem Pf:∀a b c d:Fin 2,hp (a.val:Int) (b.val:Int)=hp (c.val:Int) (d.val:Int)->a=c/\b=d:=by decide +kernel
theorem JK {a b c d:Nat}(ha:a < 2)(hb:b < 2)(hc:c < 2)(hd:d < 2)(e:hp a b=hp c d):a=c/\b=d:=by
 obtain⟨h1,h2⟩:=Pf ⟨a,ha⟩ ⟨b,hb⟩ ⟨c,hc⟩ ⟨d,hd⟩ e
 exact⟨zA3 Fin.val h1,zA3 Fin.val h2⟩
theorem HC {β:Type}(g:Dt->β)(M:List (Nat × Nat)):(gQ M).map (λk=>g k.1)=M.map λp=>g (gG p.1 p.2):=by
 unfold gQ
 rw[zAy]
 have:∀(M:List (Nat × Nat)) (n:Nat),(M.zipIdx n).map ((λk:Dt × V=>g k.1) ∘ λq=>(gG q.1.1 q.1.2,V.int (q.2:Int)))=M.map λp=>g (gG p.1 p.2):=by
  intro M
  induction M with
  | nil=>intro _; rfl
  | cons p M ih=>intro n; rw[List.zipIdx_cons,zAo,zAo,ih]; rfl
 exact this _ 0
theorem Ft {P:Program}{w:World}{x y:Str}(hx:x.length<=2)(hy:y.length<=2):((gQ (dm x y x.cps.size)).map λk=>jU P w k.1).Nodup:=by
 have hx':x.cps.size<=2:=hx
 have hy':y.cps.size<=2:=hy
 rw[HC (jU P w),List.Nodup,zBk]
 refine (zC8.mp (sJ x.cps.size)).imp λ{p q} ⟨hp,hq,ne⟩ e=>ne ?_
 have h1:=gK.mp hp
 have h2:=gK.mp hq
 rw[DX,DX] at e
 obtain⟨g1,g2⟩:=JK (by omega) (by omega) (by omega) (by omega) e
 exact Prod.ext g1 g2
section
variable {P:Program}{w:World}{K:zzA}{mg:Str->Option Value}{base:Heap}{t:Ad}
noncomputable def HD (K:zzA)(P:Program)(w:World):Sp:=λvs H Q _=>∃(a b m:Addr) (x y:Str) (ts us:zzB),vs=[.ref a,.ref b,.ref m]/\dO K H a x ts/\In x ts/\dO K H b y us/\In y us/\c_ K P w H m (gQ (dm x y x.cps.size))/\∀p H',H p=none->ai H H'->LT K H' p (gR x y ts us)->Q (.ref p) H'
theorem DY {x y:Str}{ts us:zzB}(ht:ts.length<=60)(hu:us.length<=60):(gR x y ts us).length<=3600:=by
 have:=fE (f:=λc=>(us.filter λd=>decide (cF y d=cF x c)).map λd=>pS (dm x y x.cps.size) c d) (b:=60) (cs:=ts) λc _=>by
  rw[y3]
  exact zAu (zA1 _ _) hu
 unfold gR
 omega
theorem MD {ta:TE}{g:TG}{tb:TS}{D:Ends}{σ:L2.St}{H:Hp}{R0:V->Hp->Prop}(h:∀R:VK,(∀x H',R0 x H'->R x H')->ta σ H R)
  (k:∀x H1,R0 x H1->∃a xs,x=.ref a/\aD K H1 a xs/\∃Pv:Nat->L2.St->Hp->Prop,Pv 0 σ H1/\(∀i σ H,Pv i σ H->aD K H a xs)/\(∀i x σ H,xs[i]?=some x->Pv i σ H->g x σ H fun σ2 H2=>tb { D with nx:=Pv (i+1),ct:=Pv (i+1),bk:=D.nx } σ2 H2)/\∀σ H,Pv xs.length σ H->D.nx σ H):oX (jO K ta) g tb D σ H:=
 h _ λx H1 r=>by
  obtain⟨a,xs,rfl,hq,Pv,h0,hl,hs,hd⟩:=k x H1 r
  exact⟨a,rfl,⟨xs,hq⟩,AO Pv h0 (λi σ H _ p=>hl i σ H p) hs hd⟩
theorem dB:aQ ["one","other","marks","fields","partners","found","tile","partner"] ["one","other","marks"] (aI fP):=⟨rfl,rfl,rfl,by decide +kernel,rfl,by decide +kernel,by decide +kernel⟩
theorem xj (T:Txt K mg t):bx P w K mg base cA 3 t.pI t.iJ ["one","other","marks"] (HD K P w):=by
 have sI:=xh (P:=P) (w:=w) (base:=base) T
 have xm:=vB (P:=P) (w:=w) (base:=base) T
 refine T.rY.fn.ok dB (λvs H Q E h=>?_) (λcdv A outer s H vs Q E hr h=>?_)
 ·obtain⟨a,b,m,x,y,ts,us,rfl,_⟩:=h
  rfl
 obtain⟨a,b,m,x,y,ts,us,rfl,hA,hM,hB,hN,nm,k⟩:=h
 obtain⟨TA,dR,lA⟩:=id hA
 have hx:=hM.most
 have hy:=hN.most
 have hl1:=hM.len
 have hl2:=hN.len
 generalize Lb:dm x y x.cps.size=M at nm
 have xo:M.length<=4:=by
  have h1:=yo (x:=x) (y:=y) (n:=x.cps.size)
  have h2:x.cps.size * y.cps.size<=2 * 2:=mul_le_mul hx hy
  rw[Lb] at h1
  omega
 refine⟨_,(ak (aN (i:=3) dB.nd rfl (by first | exact Or.inl rfl | exact Or.inr rfl) (eZ (OZ K P w) (by rfl) T.GU boot_dict (aa (pv 2) ah))) (ak (KW K P w hr.GN (pv 3) (c8 (v:=.ref t.gz) rfl T.sj rfl) (c8 rfl T.ku T.kB) rfl) (ak (aN (i:=4) dB.nd rfl (by first | exact Or.inl rfl | exact Or.inr rfl) (aq T.qL xm (hr.mono (by first | decide | omega)) aL (aa (pv 1) ah))) (ak (aN (i:=5) dB.nd rfl (by first | exact Or.inl rfl | exact Or.inr rfl) (bQ ah)) (ak (b_ zA2 rfl (bN K (aH (bg K) (pv 0) aj (λ_ _=>rfl))) (aE (i:=6) dB.nd rfl (by first | exact Or.inl rfl | exact Or.inr rfl)) (aB (b_ zA2 rfl (bN K (OE K P w hr.GN (pv 4) (aq T.xV sI (hr.mono (by first | decide | omega)) aL (aa (aH (bg K) (pv 0) aj (λ_ _=>rfl)) (aa (pv 6) ah))) (bQ ah) ⟨rfl,rfl,rfl,rfl⟩)) (aE (i:=7) dB.nd rfl (by first | exact Or.inl rfl | exact Or.inr rfl)) (aB (bw (jT K zA6 zBi zBj cT (pv 5) (aa (eZ (wA K) (by rfl) T.tV boot_tuple (aa (bz (N':=["pair","fields"]) (ix:=[none,some 3]) (aK (by kernel_rfl)) rfl (G7 (K:=K) T.KI (aa (pv 6) (aa (pv 7) ah))) (λ_ _ _ _=>(aE (i:=0) (show List.Nodup (["pair","fields"]:List Str) from by decide +kernel) rfl (by first | exact Or.inl rfl | exact Or.inr rfl))) (λ_ _ _ _=>bJ) (λ_ _ _ _=>(Q6 K P w hr.GN (pv 1) (pv 0) (λ_ _=>rfl)))) ah)) ah))))))) (aB (aX (pv 5)))))))),?_⟩
 refine bf (ng ((af (v:=.ref m) (by rfl)) _ λH1 s1=>⟨m,_,rfl,nm.same s1,by rw[kJ,zAk]; omega,by rw[←Lb]; exact Ft hx hy,λFd o RZ n2=>?_⟩))
 have s2:ai H (upd H1 Fd o):=s1.trans (ai.new RZ o)
 have TF:H Fd=none:=s1.free RZ
 generalize upd H1 Fd o=H2 at n2 s2
 refine Bg ((ao (v:=.int (-1))) _ λH3 s3=>(af (v:=.ref Fd) (by rfl)) _ λH4 s4=>(ao (v:=.ref t.gz)) _ λH5 s5=>?_)
 have R8:=s3.trans (s4.trans s5)
 refine⟨Fd,rfl,_,gG (-1) (-1),t.gz,n2.same R8,by rw[kJ,zAk]; omega,rfl,yp T.GS.sq,λz hz e=>?_,λo2 n6 mu=>?_⟩
 ·obtain⟨p,_,e2⟩:=vA hz
  rw[e2] at e
  have:=(yq e).1
  omega
 have s6:ai H (upd H5 Fd o2):=(s2.trans R8).put TF o2
 generalize upd H5 Fd o2=H6 at n6 s6
 refine bf (bL (aC (af (v:=.ref b) (by rfl))) λH7 s7=>⟨b,y,us,rfl,hB.same (s6.trans s7),hN,λPt H8 X6 s8 fm=>?_⟩)
 have s08:=s6.trans (s7.trans s8)
 have n8:=n6.same (s7.trans s8)
 obtain⟨fmap,fn,R_,f1,f2⟩:=fm
 obtain⟨qs,q1,q2,q3⟩:=lA.same s08
 have hl:ts.length=qs.length:=by rw[←q3,y3]
 refine bf (mJ (sE (K:=K)) rfl λF H9 hF s9 l9=>?_)
 refine mT (K:=K) (xs:=qs.map rv) (aO (K:=K) (af (by rfl)) (λ_ _=>ao) ((s08.trans s9).tup dR) (aG (j:=1) rfl)) (aD.of (s9 _ _ q1))
  (λi σ H1=>∃e6 e7:Option V,σ=[some (.ref a),some (.ref b),some (.ref m),some (.ref Fd),some (.ref Pt),some (.ref F),e6,e7]/\ai H8 H1/\LT K H1 F (gR x y (ts.take i) us))
  (λH1 s1=>⟨none,none,rfl,s9.trans s1,l9.same s1⟩) (λi σ H1 hP=>by obtain⟨_,_,_,s1,_⟩:=hP; exact aD.of (s1 _ _ q1)) (λi v σ H1 hv hP=>?_) fun σ H1 hP=>?_
 ·obtain⟨e6,e7,rfl,s1,l1⟩:=hP
  obtain⟨q,lV,rfl,cD⟩:=j7 hv
  rw[q3] at cD
  have iV:=zAj cD
  generalize hcc:q.2=c at cD iV
  have Ci:aJ K H8 q.1 (c.map V.int):=hcc ▸ q2 q lV
  have vC:=hM.ok c iV
  dsimp only [bC]
  have lb:(gR x y (ts.take i) us).length<=3600:=DY (by rw[zA9]; omega) hl2
  have snoc:gR x y (ts.take (i+1)) us=gR x y (ts.take i) us++(us.filter λd=>decide (cF y d=cF x c)).map λd=>pS M c d:=by
   unfold gR
   rw[oH cD,Lb]
  refine MD (R0:=λv H'=>ai H1 H'/\((fmap (cF x c)=none/\∃l,v=.ref l/\H' l=some (.lst []))\/fmap (cF x c)=some v)) (λR r=>?_) λv Sb ⟨s15,hv⟩=>?_
  ·dsimp only [GJ]
   refine (af (v:=.ref Pt) (by rfl)) _ λX7 s2'=>⟨Pt,rfl,⟨fmap,fn,R_.same (s1.trans s2')⟩,?_⟩
   refine bL (au (aO (K:=K) (af (by rfl)) (λ_ _=>ao) ((s08.trans (s1.trans s2')).tup dR) (aG (j:=0) rfl)) λ_ _=>aC (af (v:=.ref q.1) (by rfl))) λX8 Sd=>⟨x,q.1,c,rfl,by omega,(s1.trans (s2'.trans Sd)).tup Ci,vC,λp Vj Pd hp=>?_⟩
   refine (sE (K:=K)) _ λEa Sb hE Se Vq=>?_
   have s15:=s2'.trans (Sd.trans (Pd.trans Se))
   refine⟨_,⟨fmap,fn,cF x c,p,R_.same (s1.trans s15),rfl,DW hM.ab vC (Se.tup hp),rfl⟩,r _ _ ⟨s15,?_⟩⟩
   cases em:fmap (cF x c) with
   | none=>
    obtain⟨rs,r1,r2,r3⟩:=Vq
    have e0:rs=[]:=by simpa using r3
    subst e0
    exact .inl ⟨rfl,Ea,rfl,r1⟩
   | some z=>exact .inr rfl
  rcases hv with ⟨em,l,rfl,Cj⟩ | em
  ·refine⟨l,[],rfl,aD.of Cj,λ_ σ' H'=>σ'=[some (.ref a),some (.ref b),some (.ref m),some (.ref Fd),some (.ref Pt),some (.ref F),some (.ref q.1),e7]/\H'=Sb,⟨rfl,rfl⟩,λ_ _ _ hP=>by rw[hP.2]; exact aD.of Cj,λi v σ H hv=>by simp at hv,fun σ' H' hP=>?_⟩
   obtain⟨rfl,rfl⟩:=hP
   refine⟨_,_,rfl,s1.trans s15,?_⟩
   rw[snoc,List.filter_eq_nil_iff.mpr λd hd z=>f1 _ em d hd (zAt z),map_nil,zBc]
   exact l1.same s15
  ·obtain⟨l,rfl,lt⟩:=f2 _ _ em
   generalize hds:(us.filter λd=>decide (cF y d=cF x c))=ds at lt snoc
   obtain⟨rs,r1,r2,r3⟩:=lt
   have hdl:ds.length<=60:=by rw[←hds]; exact zAu (zA1 _ _) hl2
   have hrl:rs.length=ds.length:=by rw[←r3,y3]
   refine⟨l,rs.map rv,rfl,aD.of ((s1.trans s15) _ _ r1),λj σ' H'=>∃e7:Option V,σ'=[some (.ref a),some (.ref b),some (.ref m),some (.ref Fd),some (.ref Pt),some (.ref F),some (.ref q.1),e7]/\ai H8 H'/\LT K H' F (gR x y (ts.take i) us++(ds.take j).map λd=>pS M c d),⟨e7,rfl,s1.trans s15,by rw[List.take_zero,map_nil,zBc]; exact l1.same s15⟩,λj σ' H' hP=>by obtain⟨_,_,s',_⟩:=hP; exact aD.of (s' _ _ r1),λj v σ' H' hv hP=>?_,fun σ' H' hP=>?_⟩
   ·obtain⟨e7,rfl,s',l'⟩:=hP
    obtain⟨u,Vr,rfl,Lc⟩:=j7 hv
    rw[r3] at Lc
    have hdm:=zAj Lc
    generalize hdd:u.2=d at Lc hdm
    have Vs:aJ K H8 u.1 (d.map V.int):=hdd ▸ r2 u Vr
    rw[←hds] at hdm
    obtain⟨Vt,hfc⟩:=zAl.mp hdm
    have Pg:=hN.ok d Vt
    have prs:=pT vC Pg (zAt hfc)
    rw[Lb] at prs
    dsimp only [bC]
    refine jC ?_
    dsimp only [yV]
    obtain⟨ps,p1,p2,p3⟩:=id l'
    refine (af (v:=.ref F) (by rfl)) _ λHa sa=>⟨.inl ⟨rfl,_,aD.of (sa _ _ p1)⟩,?_⟩
    refine DH (DM (K:=K) (au (af (by rfl)) λ_ _=>aC (af (by rfl))) ((s'.trans sa).tup Ci) ((s'.trans sa).tup Vs) λHb sb hb1 hb2=>zz (λi=>.int (lW M (c.getD i 0) (d.getD i 0))) hb1 hb2 (by rw[y3,y3,vC.1,Pg.1]) (small (by rw[y3,vC.1]; omega)) (λi' f' g' tt Hc R' hf' hg' sc Vu kk=>?_) λD Hc hD sc aV=>?_)
    ·obtain⟨f,rfl,_,hf⟩:=kE hf'
     obtain⟨g,rfl,_,hg⟩:=kE hg'
     have e1:c.getD i' 0=f:=by rw[y4,hf]; rfl
     have e2:d.getD i' 0=g:=by rw[y4,hg]; rfl
     have RM:i' < 4:=by rw[←vC.1]; exact (zAp.mp hf).1
     have pr:=prs i' RM
     rw[e1,e2] at pr
     dsimp only [bC]
     refine (af (v:=.ref Fd) (by rfl)) _ λHd sd=>(af (v:=.ref tt) (by rfl)) _ λHe se=>⟨Fd,_,rfl,⟨_,gG f g,tt,n8.same (s'.trans (sa.trans (sb.trans (sc.trans (sd.trans se))))),rfl,yp ((sd.trans se).tup Vu),MC pr⟩,?_⟩
     have:=kk He (sd.trans se)
     rw[e1,e2] at this
     exact this
    ·rw[y3,vC.1] at aV
     refine⟨D,_,rfl,.inl ⟨aD.of aV,λtl G2=>?_⟩⟩
     have sT:=ai.new G2 (.tup ((range 4).map λi=>V.int (lW M (c.getD i 0) (d.getD i 0))))
     have JL:=sa.trans (sb.trans (sc.trans sT))
     have lF:=l'.same JL
     have Sf:=JL _ _ p1
     refine⟨F,ps.map rv,.ref tl,rfl,rfl,Sf,?_,?_⟩
     ·have e:=zA3 length p3
      rw[y3,zAb,y3,zA9] at e
      rw[y3,zAk]
      omega
     ·refine⟨_,rfl,(s'.trans JL).put hF _,?_⟩
      rw[zBv,Lc,v4,←zA4]
      exact lF.snoc (d:=pS M c d) (by unfold pS; rw[zAy]; exact aJ.of aA) Sf
   ·obtain⟨e7,rfl,s',l'⟩:=hP
    refine⟨_,_,rfl,s',?_⟩
    rw[snoc]
    rw[y3,hrl,zBb] at l'
    exact l'
 ·obtain⟨e6,e7,rfl,s1,l1⟩:=hP
  refine dJ (af (v:=.ref F) (by rfl)) λH2 s2=>k F H2 (s08.free hF) (s08.trans (s1.trans s2)) ?_
  rw[y3,←hl,zBb] at l1
  exact l1.same s2
end
set_option maxHeartbeats 1000000
abbrev Ph (M:List (Nat × Nat)) (f g:Int):Prop:=(f=-1/\g=-1)\/∃p q:Nat,f=p/\g=q/\(p,q)∈M
theorem pU {M:List (Nat × Nat)}{f g:Int}(h:Ph M f g):Pr M f g (lW M f g):=by
 rcases h with ⟨rfl,rfl⟩ | ⟨p,q,rfl,rfl,hm⟩
 ·exact .inl ⟨rfl,rfl,rfl⟩
 ·refine .inr ⟨M.idxOf (p,q),p,q,?_,rfl,rfl,?_⟩
  ·unfold lW
   rw[xL (by omega),zAg,zAg]
  ·rw[xI (zDf.mpr hm)]
   exact zA3 some (List.getElem_idxOf (zDf.mpr hm))
theorem xq {M:List (Nat × Nat)}(nd:M.Nodup){f g h:Int}(q:Pr M f g h):Ph M f g/\h=lW M f g:=by
 rcases q with ⟨rfl,rfl,rfl⟩ | ⟨k,i,j,rfl,rfl,rfl,e⟩
 ·exact⟨.inl ⟨rfl,rfl⟩,rfl⟩
 ·have hm:=zAj e
  refine⟨.inr ⟨i,j,rfl,rfl,hm⟩,?_⟩
  unfold lW
  rw[xL (by omega),zAg,zAg]
  have hk:=(zAp.mp e).1
  have h2:M[M.idxOf (i,j)]?=some (i,j):=by
   rw[xI (zDf.mpr hm)]
   exact zA3 some (List.getElem_idxOf (zDf.mpr hm))
  rw[(List.getElem?_inj hk nd).mp (e.trans h2.symm)]
theorem Pj {M:List (Nat × Nat)}{f g f' g' h:Int}(q:Pr M f g h)(q':Pr M f' g' h):f=f'/\g=g':=by
 rcases q with ⟨rfl,rfl,rfl⟩ | ⟨k,i,j,rfl,rfl,rfl,e⟩
 ·rcases q' with ⟨rfl,rfl,_⟩ | ⟨k,i,j,z,_⟩
  ·exact⟨rfl,rfl⟩
  ·omega
 ·rcases q' with ⟨_,_,z⟩ | ⟨k',i',j',z,rfl,rfl,e'⟩
  ·omega
  ·have:k=k':=by omega
   subst this
   rw[e] at e'
   cases e'
   exact⟨rfl,rfl⟩
theorem Pk {c d:List Int}(hc:c.length=4)(hd:d.length=4)(h:∀i,i < 4->c.getD i 0=d.getD i 0):c=d:=by
 match c,hc,d,hd with
 | [a,b,c,e],_,[a',b',c',e'],_=>
  have h0:=h 0 (by omega)
  have h1:=h 1 (by omega)
  have h2:=h 2 (by omega)
  have h3:=h 3 (by omega)
  simp at h0 h1 h2 h3
  rw[h0,h1,h2,h3]
theorem Pn {M:List (Nat × Nat)}{c d:List Int}{i:Nat}(hi:i < 4):(pS M c d).getD i 0=lW M (c.getD i 0) (d.getD i 0):=by
 unfold pS
 rw[y4,wP,List.getElem?_range hi]
 rfl
section
variable {x y:Str}{ts us:zzB}
theorem DZ {t:List Int}:t∈gR x y ts us↔∃c∈ts,∃d∈us,cF y d=cF x c/\t=pS (dm x y x.cps.size) c d:=by
 unfold gR
 rw[zDm]
 constructor
 ·rintro⟨c,hc,ht⟩
  obtain⟨d,hd,rfl⟩:=x5.mp ht
  exact⟨c,hc,d,(zAl.mp hd).1,zAt (zAl.mp hd).2,rfl⟩
 ·rintro⟨c,hc,d,hd,e,rfl⟩
  exact⟨c,hc,x5.mpr ⟨d,zAl.mpr ⟨hd,zAm e⟩,rfl⟩⟩
theorem D0 (hM:In x ts)(hN:In y us){c d c' d':List Int}(hc:c∈ts)(hd:d∈us)(hc':c'∈ts)(hd':d'∈us)(e:cF y d=cF x c)(e':cF y d'=cF x c')(q:pS (dm x y x.cps.size) c d=pS (dm x y x.cps.size) c' d'):c=c'/\d=d':=by
 have k:∀i,i < 4->c.getD i 0=c'.getD i 0/\d.getD i 0=d'.getD i 0:=λi hi=>by
  have p1:=pU (pT (hM.ok c hc) (hN.ok d hd) e i hi)
  have p2:=pU (pT (hM.ok c' hc') (hN.ok d' hd') e' i hi)
  rw[←Pn hi] at p1 p2
  rw[q] at p1
  exact Pj p1 p2
 exact⟨Pk (hM.ok c hc).1 (hM.ok c' hc').1 λi hi=>(k i hi).1,Pk (hN.ok d hd).1 (hN.ok d' hd').1 λi hi=>(k i hi).2⟩
theorem HE (hM:In x ts)(hN:In y us):(gR x y ts us).Nodup:=by
 unfold gR List.Nodup
 rw[List.pairwise_flatMap]
 refine⟨λc hc=>?_,?_⟩
 ·rw[zBk]
  refine (zC8.mp (List.Pairwise.filter _ (qp hN.up))).imp λ{d d'} ⟨hd,hd',ne⟩ q=>ne ?_
  obtain⟨h1,h2⟩:=zAl.mp hd
  obtain⟨h3,h4⟩:=zAl.mp hd'
  exact (D0 hM hN hc h1 hc h3 (zAt h2) (zAt h4) q).2
 ·refine (zC8.mp (qp hM.up)).imp λ{c c'} ⟨hc,hc',ne⟩ u hu v hv q=>ne ?_
  obtain⟨d,hd,rfl⟩:=x5.mp hu
  obtain⟨d',hd',rfl⟩:=x5.mp hv
  obtain⟨h1,h2⟩:=zAl.mp hd
  obtain⟨h3,h4⟩:=zAl.mp hd'
  exact (D0 hM hN hc h1 hc' h3 (zAt h2) (zAt h4) q).1
theorem HG (hM:In x ts)(hN:In y us):∀t∈gR x y ts us,aU (dm x y x.cps.size).length t:=λt ht=>by
 obtain⟨c,hc,d,hd,e,rfl⟩:=DZ.mp ht
 refine⟨by unfold pS; simp,λf hf=>?_⟩
 unfold pS at hf
 obtain⟨i,hi,rfl⟩:=x5.mp hf
 rcases pT (hM.ok c hc) (hN.ok d hd) e i (zAq.mp hi) with ⟨h1,h2⟩ | ⟨p,q,h1,h2,hm⟩
 ·rw[h1]
  unfold lW
  rw[x4 rfl]
  omega
 ·have:=zDf.mpr hm
  rw[h1,h2]
  unfold lW
  rw[xL (by omega),zAg,zAg]
  omega
end
section
variable {P:Program}{w:World}{K:zzA}{mg:Str->Option Value}{base:Heap}{t:Ad}
noncomputable def ME (K:zzA):Sp:=λvs H Q _=>∃(a b:Addr) (x y:Str) (ts us:zzB),vs=[.ref a,.ref b]/\dO K H a x ts/\In x ts/\dO K H b y us/\In y us/\
 ∀r H' z ws,H r=none->ai H H'->dO K H' r z ws->Ou z ws->z.cps.toList=(dm x y x.cps.size).map (λp=>x.cps.getD p.1 0)->(∀c,c∈ws↔c∈gR x y ts us)->Q (.ref r) H'
theorem MG {H:Hp}{i j:Int}{b:Addr}(h:NK K H (gG i j) b):aJ K H b [.int i,.int j]:=by
 obtain⟨_,_,_,r⟩:=h
 exact (fY (t:=[i,j])).mp r |> λ⟨a,e,q⟩=>by cases e; exact q
theorem qq:aQ ["one","other","marks","letters"] ["one","other"] (aI lD):=⟨rfl,rfl,rfl,by decide +kernel,rfl,by decide +kernel,by decide +kernel⟩
theorem Fv (T:Txt K mg t):bx P w K mg base cA 5 t.zg t.oj ["one","other"] (ME K):=by
 have fF:=j8 (P:=P) (w:=w) (base:=base) T
 have cO:=gb (P:=P) (w:=w) (base:=base) T
 have vD:=um (P:=P) (w:=w) (base:=base) T
 have yr:=xj (P:=P) (w:=w) (base:=base) T
 refine T.DB.fn.ok qq (λvs H Q E h=>?_) (λcdv A outer s H vs Q E hr h=>?_)
 ·obtain⟨a,b,x,y,ts,us,rfl,_⟩:=h
  rfl
 obtain⟨a,b,x,y,ts,us,rfl,hA,hM,hB,hN,k⟩:=h
 have hx:=hM.most
 have hy:=hN.most
 obtain⟨TA,dR,lA⟩:=id hA
 obtain⟨TB,oN,lB⟩:=id hB
 refine⟨_,(ak (bw (aq T.look_both fF (hr.mono (by first | decide | omega)) aL (aa (pv 0) (aa (pv 1) ah)))) (ak (bw (aq T.gA cO (hr.mono (by first | decide | omega)) aL (aa (av gk (aM (cC K) (by rfl) T.bM zBh (aa (aH (bg K) (pv 0) aj (λ_ _=>rfl)) ah)) (aM (cC K) (by rfl) T.bM zBh (aa (aH (bg K) (pv 1) aj (λ_ _=>rfl)) ah))) ah))) (ak (aN (i:=2) qq.nd rfl (by first | exact Or.inl rfl | exact Or.inr rfl) (aq T.pN vD (hr.mono (by first | decide | omega)) aL (aa (aH (bg K) (pv 0) aj (λ_ _=>rfl)) (aa (aH (bg K) (pv 1) aj (λ_ _=>rfl)) ah)))) (ak (aN (i:=3) qq.nd rfl (by first | exact Or.inl rfl | exact Or.inr rfl) (jT K zDq zDu zDv (wj K) k8 (aa (bz (N':=["pair","one"]) (ix:=[none,some 0]) (aK (by kernel_rfl)) rfl (O0 K P w (pv 2)) (λ_ _ _ _=>(aE (i:=0) (show List.Nodup (["pair","one"]:List Str) from by decide +kernel) rfl (by first | exact Or.inl rfl | exact Or.inr rfl))) (λ_ _ _ _=>bJ) (λ_ _ _ _=>(aH lg (aH (bg K) (pv 1) aj (λ_ _=>rfl)) (aH (bg K) (pv 0) aj (λ_ _=>rfl)) (λ_ _=>rfl)))) ah))) (aB (aX (bP (aa (pv 3) (aa (aM (vd K) (by rfl) T.kC boot_sorted (aa (aq T.rY yr (hr.mono (by first | decide | omega)) aL (aa (pv 0) (aa (pv 1) (aa (pv 2) ah)))) ah)) ah))))))))),?_⟩
 have ixA:∀{σ:L2.St} {H':Hp},ai H H'->σ[0]?=some (some (.ref a))->Gv (di (xN K) (fB 0) (tC (.int 0))) σ H' (.str x):=λs h=>aO (K:=K) (af h) (λ_ _=>ao) (s.tup dR) (aG (j:=0) rfl)
 have ixB:∀{σ:L2.St} {H':Hp},ai H H'->σ[1]?=some (some (.ref b))->Gv (di (xN K) (fB 1) (tC (.int 0))) σ H' (.str y):=λs h=>aO (K:=K) (af h) (λ_ _=>ao) (s.tup oN) (aG (j:=0) rfl)
 refine d8 (bL (au (af (by rfl)) λ_ _=>aC (af (by rfl))) λH1 s1=>⟨a,b,x,y,ts,us,rfl,hA.same s1,hM.ou.sg,hB.same s1,hN.ou.sg,λH2 s2=>?_⟩)
 have s02:=s1.trans s2
 have hmul:x.length * y.length<=2 * 2:=mul_le_mul hx hy
 have Xi:(x.length:Int) * (y.length:Int)<=4:=by
  have:(x.length:Int) * (y.length:Int)=((x.length * y.length:Nat):Int):=(Int.natCast_mul _ _).symm
  omega
 refine d8 (bL (aC (aW (bZ (K:=K) (aC (ixA s02 (by rfl))) (small (by omega))) (λH3 s3=>bZ (K:=K) (aC (ixB (s02.trans s3) (by rfl))) (small (by omega))) (.inl ⟨by omega,by omega⟩))) λH3 s3=>⟨_,rfl,by omega,λH4 s4=>?_⟩)
 have s04:=s02.trans (s3.trans s4)
 refine bf (bL (au (ixA s04 (by rfl)) λH5 s5=>aC (ixB (s04.trans s5) (by rfl))) λH5 s5=>⟨x,y,rfl,hx,hy,hM.ab,hN.ab,λm H6 hm s6 nm=>?_⟩)
 have s06:=s04.trans (s5.trans s6)
 have xo:(dm x y x.cps.size).length<=4:=by
  have h1:=yo (x:=x) (y:=y) (n:=x.cps.size)
  have h2:x.cps.size * y.cps.size<=2 * 2:=hmul
  omega
 refine bf ⟨rfl,?_⟩
 refine G_ (K:=K) (P:=P) (w:=w) (λi=>.str (c9 (x.cps.getD ((dm x y x.cps.size).getD i (0,0)).1 0))) (af (by rfl)) nm (by rw[kJ,zAk]; omega) (λi d p H7 R hi s7 nk kk=>?_) λD H7 hD s7 aV=>?_
 ·have e:(gQ (dm x y x.cps.size)).map (λk=>k.1)=(dm x y x.cps.size).map λp=>gG p.1 p.2:=HC (λd=>d) _
  rw[e,wP] at hi
  obtain⟨u,hu,rfl⟩:=zBf.mp hi
  have hq:=MG nk
  have hm:=gK.mp (zAj hu)
  have eu:(dm x y x.cps.size).getD i (0,0)=u:=by rw[y4,hu]; rfl
  have:=kk
  rw[eu] at this
  dsimp only [bC]
  have hlt:u.1 < x.cps.size:=hm.1
  exact dh (lu (aO (K:=K) (af (v:=.ref a) (by rfl)) (λ_ _=>ao) ((s06.trans s7).tup dR) (aG (j:=0) rfl)) (λH8 s8=>aO (K:=K) (i:=0) (v:=.int (u.1:Int)) (af (v:=.ref p) (by rfl)) (λ_ _=>ao) (s8.tup hq) (aG (j:=0) rfl)) (small (by omega)) (aG (v:=x.cps.getD u.1 0) (by rw[zAc,kS hlt,zA0,kS hlt]; rfl))) λH8 s8=>this H8 s8
 ·generalize hcs:(dm x y x.cps.size).map (λp=>x.cps.getD p.1 0)=cs at k
  have hcl:cs.length=(dm x y x.cps.size).length:=by rw[←hcs,y3]
  have vm:H7 D=some (.lst ((cs.map c9).map V.str)):=by
   rw[aV,kJ,←hcs,zAy,zAy]
   congr 2
   refine zCa (by simp) λi h1 h2=>?_
   have hi:i < (dm x y x.cps.size).length:=by simpa using h2
   simp [hi]
  have s07:=s06.trans s7
  refine⟨"",D,cs.map c9,rfl,rfl,aD.of vm,by rw[kD,y3]; show cs.length+cs.length * 0<=16777216; omega,?_⟩
  have Po:=qk cs
  generalize join "" (cs.map c9)=z at *
  have Vv:z.length=cs.length:=by
   show z.cps.size=_
   rw[←u8,Po]
  have hab:∀c∈z.cps.toList,c=97\/c=98:=λc hc=>by
   rw[Po,←hcs] at hc
   obtain⟨p,hp,rfl⟩:=x5.mp hc
   have hlt:=(gK.mp hp).1
   refine hM.ab _ ?_
   have e:x.cps.getD p.1 0=x.cps[p.1]:=by rw[zA0,kS hlt]; rfl
   rw[e]
   exact Array.getElem_mem_toList hlt
  have h1:=hM.len
  have h2:=hN.len
  have h3:=DY (x:=x) (y:=y) h1 h2
  have Vw:jE (gR x y ts us):=⟨λc hc=>(HG hM hN c hc).1,by omega⟩
  refine b9 (t7 (K:=K) (z:=z) (ok:=Made (gR x y ts us)) (af (by rfl)) (λH8 s8=>?_) λr H8 ws hr s8 sy o=>k r H8 z ws (s07.free hr) (s07.trans s8) sy (o.ou (by omega) hab (by rw[Vv,hcl]; exact HG hM hN) (by omega)) Po o.2)
  refine Fp (λR r=>bL (au (af (v:=.ref a) (by rfl)) λ_ _=>au (af (v:=.ref b) (by rfl)) λ_ _=>aC (af (v:=.ref m) (by rfl))) λH9 s9=>⟨a,b,m,x,y,ts,us,rfl,hA.same (s07.trans (s8.trans s9)),hM,hB.same (s07.trans (s8.trans s9)),hN,nm.same (s7.trans (s8.trans s9)),λp ic hp s10 Vx=>r p ic (s9.trans s10) Vx⟩) Vw (HE hM hN)
end
noncomputable def dS (l:List Int)(i:Nat):Int:=if i=0 then -1 else l.getD (i - 1) 0
noncomputable def xu (x ls:Str)(k:Int):Prop:=0<=k/\k < x.length/\x.cps.getD k.toNat 0∈ls.cps.toList
noncomputable def Ck (x y:Str)(h:Nat)(c:List Int):Prop:=∀i,i < h+1->xu x ⟨#[y.cps.getD i 0]⟩ (c.getD i 0)
noncomputable def nJ (ts:zzB)(h:Nat)(l c:List Int):Prop:=(∀i,i < h+1->[dS l i,dS c i,l.getD i 0,c.getD i 0]∈ts)/\[l.getD h 0,c.getD h 0,-1,-1]∈ts
noncomputable def g6 (h:Nat):List Int:=replicate (h+1) (-1)
noncomputable def gf (x y:Str)(h k:Nat):List Int:=if k < h+1 then ((range x.cps.size).filter λv=>decide (x.cps.getD v 0=y.cps.getD k 0)).map (λv:Nat=>(v:Int)) else [-1]
noncomputable def gh (l c:List Int)(k:Nat)(v:Int):List Int:=[dS l k,dS c k,(l++[-1]).getD k 0,v]
noncomputable def g7 (ts:zzB)(l:List Int)(k:Nat)(ms:List Int)(c:List Int):zzB:=(ms.filter λv=>decide (gh l c k v∈ts)).map λv=>c++[v]
noncomputable def gH (x:Str)(ts:zzB)(y:Str)(l:List Int)(h:Nat):Nat->zzB
 | 0=>[[]]
 | k+1=>(gH x ts y l h k).flatMap (g7 ts l k (gf x y h k))
section
variable {x y:Str}{ts:zzB}{l c:List Int}{h k:Nat}
theorem D3:(gf x y h k).length<=x.cps.size\/(gf x y h k).length=1:=by
 unfold gf
 split
 ·left
  rw[y3]
  exact zAu (zA1 _ _) (by simp)
 ·right; rfl
theorem nK (hk:¬ k < h+1):gf x y h k=[-1]:=by unfold gf; rw[xL hk]
theorem D4 (hk:k < h+1){v:Int}:v∈gf x y h k↔xu x ⟨#[y.cps.getD k 0]⟩ v:=by
 unfold gf xu
 rw[x4 hk,x5]
 constructor
 ·rintro⟨n,hn,rfl⟩
  obtain⟨h1,h2⟩:=zAl.mp hn
  have h3:=zAt h2
  have h4:=zAq.mp h1
  refine⟨by omega,by show (n:Int) < (x.cps.size:Int); omega,?_⟩
  rw[zAg,h3]
  exact w8.mpr rfl
 ·rintro⟨h1,h2,h3⟩
  have h2:v < (x.cps.size:Int):=h2
  refine⟨v.toNat,zAl.mpr ⟨zAq.mpr (by omega),zAm ?_⟩,by omega⟩
  exact w8.mp h3
theorem iB {c:List Int}{v:Int}{i:Nat}(hi:i < c.length):(c++[v]).getD i 0=c.getD i 0:=by
 rw[y4,zA8 hi,y4]
theorem cV {c:List Int}{v:Int}:(c++[v]).getD c.length 0=v:=by
 rw[y4,zAz (x3 _),zD7]
 rfl
theorem iC {c:List Int}{v:Int}{i:Nat}(hi:i<=c.length):dS (c++[v]) i=dS c i:=by
 unfold dS
 split
 ·rfl
 ·exact iB (by omega)
theorem zE {ms:List Int}{d:List Int}:d∈g7 ts l k ms c↔∃v∈ms,gh l c k v∈ts/\d=c++[v]:=by
 unfold g7
 rw[x5]
 constructor
 ·rintro⟨v,hv,rfl⟩
  obtain⟨h1,h2⟩:=zAl.mp hv
  exact⟨v,h1,zAt h2,rfl⟩
 ·rintro⟨v,h1,h2,rfl⟩
  exact⟨v,zAl.mpr ⟨h1,zAm h2⟩,rfl⟩
theorem gj:∀{k:Nat} {c:List Int},c∈gH x ts y l h k↔c.length=k/\∀i,i < k->c.getD i 0∈gf x y h i/\gh l c i (c.getD i 0)∈ts
 | 0,c=>by
  show c∈[[]]↔_
  rw[w8]
  constructor
  ·rintro rfl
   exact⟨rfl,λi hi=>absurd hi (by omega)⟩
  ·rintro⟨z,_⟩
   exact List.eq_nil_of_length_eq_zero z
 | k+1,c=>by
  show c∈(gH x ts y l h k).flatMap _↔_
  rw[zDm]
  constructor
  ·rintro⟨d,hd,hc⟩
   obtain⟨v,h1,h2,rfl⟩:=zE.mp hc
   obtain⟨h3,h4⟩:=gj.mp hd
   refine⟨by simp [h3],λi hi=>?_⟩
   by_cases e:i=k
   ·subst e
    have e2:(d++[v]).getD i 0=v:=by rw[←h3]; exact cV
    rw[e2]
    refine⟨h1,?_⟩
    unfold gh at h2 ⊢
    rw[iC (by omega)]
    exact h2
   ·have hi':i < k:=by omega
    rw[iB (by omega)]
    refine⟨(h4 i hi').1,?_⟩
    have:=(h4 i hi').2
    unfold gh at this ⊢
    rw[iC (by omega)]
    exact this
  ·rintro⟨h3,h4⟩
   obtain⟨d,v,rfl⟩:∃d v,c=d++[v]:=by
    rcases List.eq_nil_or_concat c with rfl | ⟨d,v,rfl⟩
    ·simp at h3
    ·exact⟨d,v,by simp⟩
   have hd:d.length=k:=by simpa using h3
   refine⟨d,gj.mpr ⟨hd,λi hi=>?_⟩,zE.mpr ⟨v,?_,?_,rfl⟩⟩
   ·have:=h4 i (by omega)
    rw[iB (by omega)] at this
    refine⟨this.1,?_⟩
    have:=this.2
    unfold gh at this ⊢
    rw[iC (by omega)] at this
    exact this
   ·have:=(h4 k (by omega)).1
    rw[←hd,cV] at this
    rw[←hd]
    exact this
   ·have:=(h4 k (by omega)).2
    rw[←hd,cV] at this
    unfold gh at this ⊢
    rw[iC (x3 _)] at this
    rw[←hd]
    exact this
theorem vE {ms:List Int}:(g7 ts l k ms c).length<=ms.length:=by
 unfold g7
 rw[y3]
 exact zA1 _ _
theorem mL (hx:x.cps.size<=4):∀{k:Nat},(gH x ts y l h k).length<=4 ^ min k (h+1)
 | 0=>by show 1<=_; rw[Nat.zero_min]; decide
 | k+1=>by
  have ih:=mL hx (k:=k)
  by_cases c:k < h+1
  ·have e1:min (k+1) (h+1)=min k (h+1)+1:=by omega
   rw[e1,Nat.pow_succ]
   refine zAu (fE (b:=4) λc _=>?_) (Nat.mul_le_mul_right 4 ih)
   have h1:=vE (ts:=ts) (l:=l) (k:=k) (ms:=gf x y h k) (c:=c)
   have h2:=D3 (x:=x) (y:=y) (h:=h) (k:=k)
   omega
  ·have e1:min (k+1) (h+1)=min k (h+1):=by omega
   rw[e1]
   refine zAu (fE (b:=1) λc' _=>?_) (by rw[Nat.mul_one]; exact ih)
   have h1:=vE (ts:=ts) (l:=l) (k:=k) (ms:=gf x y h k) (c:=c')
   rw[nK c] at h1
   rw[nK c]
   exact h1
theorem D5 {d:List Int}(hd:d∈gH x ts y l h (h+2)):d.dropLast.length=h+1/\d=d.dropLast++[-1]:=by
 obtain⟨h1,h2⟩:=gj.mp hd
 obtain⟨c,v,rfl⟩:∃c v,d=c++[v]:=by
  rcases List.eq_nil_or_concat d with rfl | ⟨c,v,rfl⟩
  ·simp at h1
  ·exact⟨c,v,by simp⟩
 have hc:c.length=h+1:=by simpa using h1
 have:=(h2 (h+1) (by omega)).1
 rw[←hc,cV,nK (by omega)] at this
 rw[w8.mp this,List.dropLast_concat]
 exact⟨hc,rfl⟩
noncomputable def jz (x:Str)(ts:zzB)(y:Str)(l:List Int)(h:Nat)(q:List Int->Bool):zzB:=((gH x ts y l h (h+2)).map List.dropLast).filter q
theorem sL {q:List Int->Bool}(hl:l.length=h+1):c∈jz x ts y l h q↔(c.length=h+1/\Ck x y h c/\nJ ts h l c)/\q c=true:=by
 unfold jz
 rw[zAl]
 refine and_congr_left λ_=>?_
 rw[x5]
 have lh:(l++[-1]).getD (h+1) 0=-1:=by rw[←hl]; exact cV
 constructor
 ·rintro⟨d,hd,rfl⟩
  obtain⟨e1,e2⟩:=D5 hd
  obtain⟨h1,h2⟩:=gj.mp hd
  generalize hc:d.dropLast=c at e1 e2
  subst e2
  refine⟨e1,λi hi=>?_,λi hi=>?_,?_⟩
  ·have:=(h2 i (by omega)).1
   rw[iB (by omega)] at this
   exact (D4 hi).mp this
  ·have:=(h2 i (by omega)).2
   unfold gh at this
   rw[iB (by omega),iB (by omega),iC (by omega)] at this
   exact this
  ·have:=(h2 (h+1) (by omega)).2
   unfold gh at this
   rw[lh,iC (by omega)] at this
   have e3:(c++[-1]).getD (h+1) 0=-1:=by rw[←e1]; exact cV
   rw[e3] at this
   unfold dS at this
   rw[xL (by omega),xL (by omega),zCg] at this
   exact this
 ·rintro⟨e1,h1,h2,h3⟩
  refine⟨c++[-1],gj.mpr ⟨by simp [e1],λi hi=>?_⟩,List.dropLast_concat⟩
  by_cases ci:i < h+1
  ·rw[iB (by omega)]
   refine⟨(D4 ci).mpr (h1 i ci),?_⟩
   have:=h2 i ci
   unfold gh
   rw[iB (by omega),iC (by omega)]
   exact this
  ·have ei:i=h+1:=by omega
   subst ei
   have e3:(c++[-1]).getD (h+1) 0=-1:=by rw[←e1]; exact cV
   rw[e3,nK (by omega)]
   refine⟨w8.mpr rfl,?_⟩
   unfold gh
   rw[lh,iC (by omega)]
   unfold dS
   rw[xL (by omega),xL (by omega),zCg]
   exact h3
end
set_option maxHeartbeats 1000000
section
variable {P:Program}{w:World}{K:zzA}{mg:Str->Option Value}{base:Heap}{t:Ad}
theorem Pp {x:Str}{m:Int}(h0:0<=m)(h1:m < x.length):iR x.cps.toList m=some (x.cps.getD m.toNat 0):=by
 obtain⟨j,rfl⟩:=Int.eq_ofNat_of_zero_le h0
 have hj:j < x.cps.size:=by
  have:(j:Int) < (x.cps.size:Int):=h1
  omega
 refine aG (j:=j) ?_
 show x.cps.toList[j]?=some (x.cps.getD j 0)
 rw[zAc,zA0,kS hj]
 rfl
theorem pV {h i:Nat}(hi:i < h+1):(g6 h).getD i 0=-1:=by
 unfold g6
 rw[y4,List.getElem?_replicate,x4 hi]
 rfl
theorem iD {te:TE}{tt:TA}{σ:L2.St}{H:Hp}{R:List V->Hp->Prop}(h:te σ H λv H1=>tt σ H1 λvs H2=>R (v::vs) H2):bE te tt σ H R:=h
noncomputable def HH (K:zzA):Sp:=λvs H Q _=>∃(a:Addr) (ns:List Int) (k:Int) (hg wd:Nat) (ls:Str),vs=[.ref a,.int k,.int (hg:Int),.int (wd:Int),.str ls]/\aD K H a (ns.map V.int)/\ns.length<=63/\1<=ls.cps.size/\ls.cps.size<=100/\hg<=20/\wd<=20/\
 ∀(Z:Addr) (p:List Str) (H':Hp),H Z=none->ai H H'->H' Z=some (.lst (p.map V.str))->p.length=hg->(∀r∈p,r.cps.size=wd/\∀c∈r.cps.toList,c∈ls.cps.toList)->Q (.ref Z) H'
theorem j9:aQ ["_law_script","_law_k","_law_high","_law_wide","_law_letters","_law_found","_law_y"] ["_law_script","_law_k","_law_high","_law_wide","_law_letters"] (aI fS):=⟨rfl,rfl,rfl,by decide +kernel,rfl,by decide +kernel,by decide +kernel⟩
theorem oO (T:Txt K mg t):bx P w K mg base cA 3 t.pL t.iM ["_law_script","_law_k","_law_high","_law_wide","_law_letters"] (HH K):=by
 have bT:=kX (P:=P) (w:=w) (base:=base) T
 refine T._law_picture.fn.ok j9 (λvs H Q E h=>?_) (λcdv A outer s H vs Q E hr h=>?_)
 ·obtain⟨a,ns,k,hg,wd,ls,rfl,_⟩:=h
  rfl
 obtain⟨a,ns,k,hg,wd,ls,rfl,hS,hl,Xw,Xx,RK,RL,kk⟩:=h
 refine⟨_,(ak (aN (i:=5) j9.nd rfl (by first | exact Or.inl rfl | exact Or.inr rfl) (bQ ah)) (ak (b_ zA2 rfl (bK rfl T.bW (aa (pv 2) ah)) (aE (i:=6) j9.nd rfl (by first | exact Or.inl rfl | exact Or.inr rfl)) (aB (bw (jT K zA6 zBi zBj cT (pv 5) (aa (jT K zDq zDu zDv (wj K) k8 (aa (bz (N':=["_law_x","_law_letters","_law_script","_law_k","_law_y"]) (ix:=[none,some 4,some 0,some 1,some 6]) (aK (by kernel_rfl)) rfl (bK rfl T.bW (aa (pv 3) ah)) (λ_ _ _ _=>(aE (i:=0) (show List.Nodup (["_law_x","_law_letters","_law_script","_law_k","_law_y"]:List Str) from by decide +kernel) rfl (by first | exact Or.inl rfl | exact Or.inr rfl))) (λ_ _ _ _=>bJ) (λ_ _ _ _=>(aH lg (pv 1) (av cy (av gI (aq T._law_mix bT (hr.mono (by first | decide | omega)) aL (aa (pv 2) (aa (av aP (av aP (pv 3) (av gk aj (pv 4))) (pv 0)) ah))) aj) (aM (cC K) (by rfl) T.bM zBh (aa (pv 1) ah))) (λ_ _=>rfl)))) ah)) ah))))) (aB (aX (pv 5))))),?_⟩
 refine bf ⟨(by show 0<=sizeLine; decide),λF hF=>?_⟩
 refine iN (n:=hg) (aC (af (by rfl))) (by omega)
  (λi σ H1=>∃(e6:Option V) (p:List Str),σ=[some (.ref a),some (.int k),some (.int (hg:Int)),some (.int (wd:Int)),some (.str ls),some (.ref F),e6]/\ai H H1/\H1 F=some (.lst (p.map V.str))/\p.length=i/\∀r∈p,r.cps.size=wd/\∀c∈r.cps.toList,c∈ls.cps.toList)
  (λH1 s1=>⟨none,[],rfl,(ai.new hF _).trans s1,s1 _ _ aA,rfl,by simp⟩) (λi σ H1 hi hP=>?_) fun σ H1 hP=>?_
 ·obtain⟨e6,p,rfl,s1,Ld,hpl,hpr⟩:=hP
  let f:Nat->Nat:=λj=>ls.cps.getD (mix ns (k+6 * (i:Int)+(0+(j:Int))) / 8 % (ls.cps.size:Int)).toNat 0
  have hm:∀j,0<=mix ns (k+6 * (i:Int)+(0+(j:Int))) / 8 % (ls.cps.size:Int)/\mix ns (k+6 * (i:Int)+(0+(j:Int))) / 8 % (ls.cps.size:Int) < ls.cps.size:=λj=>⟨zCm _ (by omega),zC4 _ (by omega)⟩
  refine jC ((af (v:=.ref F) (by rfl)) _ λH2 s2=>⟨.inl ⟨rfl,_,aD.of (s2 _ _ Ld)⟩,iD ⟨rfl,pF (aC (af (by rfl))) (by omega) (by omega) λH3 s3=>?_⟩⟩)
  rw[zAg]
  have s13:=s1.trans (s2.trans s3)
  refine cH (λj=>.str (c9 (f j))) (small (by omega)) (λj H4 R hj s4 k4=>?_) λD H4 hD s4 aV=>?_
  ·have h0:=(hm j).1
   have h1:=(hm j).2
   refine dh (lu (af (by rfl)) (λH5 s5=>aW (aW (gB hS hl (s13.trans (s4.trans s5)) (au (af (by rfl)) λ_ _=>aC (aS (aS (af (by rfl)) λ_ _=>aW ao (λ_ _=>af (by rfl)) (.inl ⟨by decide,by decide⟩)) λ_ _=>af (by rfl)))) (λ_ _=>ao) ⟨by decide,by decide⟩) (λ_ _=>bZ (K:=K) (aC (af (by rfl))) (small (by show ls.cps.size<=100000; omega))) (by show (0:Int) < (ls.cps.size:Int); omega)) (small (by show ls.cps.size<=100000; omega)) (Pp h0 h1)) λH5 s5=>k4 H5 s5
  ·refine⟨"",D,(range wd).map (λj=>c9 (f j)),rfl,rfl,aD.of (by rw[aV,zAy]; rfl),?_,?_⟩
   ·have e:(range wd).map (λj=>c9 (f j))=((range wd).map f).map c9:=by rw[zAy]; rfl
    rw[e,kD]
    simp
    show wd+wd * 0<=16777216
    omega
   ·have BF:=(s2.trans (s3.trans s4)) _ _ Ld
    refine⟨F,_,_,rfl,rfl,BF,by rw[y3,zAk]; omega,?_⟩
    have Sh:(join "" ((range wd).map λj=>c9 (f j))).cps.toList=(range wd).map f:=by
     have:=qk ((range wd).map f)
     rw[zAy] at this
     exact this
    refine⟨_,p++[join "" ((range wd).map λj=>c9 (f j))],rfl,(s13.trans s4).put hF _,by rw[aA,v4]; rfl,by simp [hpl],λr hr=>?_⟩
    rcases wT.mp hr with z | z
    ·exact hpr r z
    ·rw[w8.mp z]
     refine⟨by rw[←u8,Sh]; simp,λc hc=>?_⟩
     rw[Sh] at hc
     obtain⟨j,hj,rfl⟩:=x5.mp hc
     have h1:=(hm j).2
     have h0:=(hm j).1
     show ls.cps.getD _ 0∈ls.cps.toList
     have hlt:(mix ns (k+6 * (i:Int)+(0+(j:Int))) / 8 % (ls.cps.size:Int)).toNat < ls.cps.size:=by omega
     rw[Array.mem_toList_iff,zA0,kS hlt]
     exact Array.getElem_mem hlt
 ·obtain⟨e6,p,rfl,s1,Ld,hpl,hpr⟩:=hP
  exact dJ (af (by rfl)) λH2 s2=>kk F p H2 hF (s1.trans s2) (s2 _ _ Ld) hpl hpr
noncomputable def cX (ts:zzB)(c:List Int):Bool:=(range (c.length+1)).all λk=>decide ([dS c k,-1,(c++[-1]).getD k 0,-1]∈ts)
theorem Cm {ts:zzB}{h:Nat}{c:List Int}(hc:c.length=h+1):cX ts c=true↔nJ ts h c (g6 h):=by
 have Si:∀i,i < h+2->dS (g6 h) i=-1:=λi hi=>by
  unfold dS
  split
  ·rfl
  ·exact pV (by omega)
 unfold cX nJ
 rw[zC2]
 constructor
 ·intro z
  refine⟨λi hi=>?_,?_⟩
  ·have:=zAt (z i (zAq.mpr (by omega)))
   rw[y4,zA8 (by omega),←y4] at this
   rw[Si i (by omega),pV hi]
   exact this
  ·have:=zAt (z (h+1) (zAq.mpr (by omega)))
   rw[y4,zAz (by omega),hc,zD7] at this
   unfold dS at this
   rw[xL (by omega),zCg] at this
   rw[pV (by omega)]
   exact this
 ·rintro⟨z1,z2⟩ k hk
  have hk':k < h+2:=by have:=zAq.mp hk; omega
  refine zAm ?_
  by_cases ck:k < h+1
  ·have:=z1 k ck
   rw[Si k (by omega),pV ck] at this
   rw[y4,zA8 (by omega),←y4]
   exact this
  ·have ek:k=h+1:=by omega
   subst ek
   rw[y4,zAz (by omega),hc,zD7]
   unfold dS
   rw[xL (by omega),zCg]
   rw[pV (by omega)] at z2
   exact z2
end
set_option maxHeartbeats 1000000
section
variable {P:Program}{w:World}{K:zzA}{mg:Str->Option Value}{base:Heap}{t:Ad}
noncomputable def Cn (K:zzA)(H:Hp)(a T:Addr)(x:Str)(ps:zzD):Prop:=aJ K H a [.str x,.ref T]/\aD K H T (ps.map rv)/\∀q∈ps,aJ K H q.1 (q.2.map V.int)
theorem Cn.same {H H':Hp}{a T:Addr}{x:Str}{ps:zzD}(h:Cn K H a T x ps)(s:ai H H'):Cn K H' a T x ps:=⟨s.tup h.1,s.seq h.2.1,λq hq=>s.tup (h.2.2 q hq)⟩
theorem vF {c:List Int}{k:Nat}(hk:k < c.length+2):iR (([-1]++c++[-1]).map V.int) (k:Int)=some (.int (dS (c++[-1]) k)):=by
 refine aG ?_
 rw[wP]
 unfold dS
 cases k with
 | zero=>rfl
 | succ k=>
  show Option.map V.int ((c++[-1])[k]?)=_
  have:k < (c++[-1]).length:=by simp; omega
  rw[xL (by omega),zCg,y4,xI this]
  rfl
theorem D6 {c:List Int}{k:Nat}(hk:k < c.length+1):dS (c++[-1]) k=dS c k:=by
 unfold dS
 split
 ·rfl
 ·rw[y4,zA8 (by omega),y4]
theorem JM {c:List Int}{k:Nat}:dS c (k+1)=c.getD k 0:=by
 unfold dS
 rw[xL (by omega),zCg]
noncomputable def Fw (K:zzA):Sp:=λvs H Q _=>∃(a T ca:Addr) (x:Str) (ps:zzD) (c:List Int),vs=[.ref a,.ref ca]/\Cn K H a T x ps/\aJ K H ca (c.map V.int)/\c.length<=20/\
 ∀H',ai H H'->Q (.bl (cX (ps.map (·.2)) c)) H'
theorem sN:aQ ["_law_system_here","_law_column_here","_law_whole"] ["_law_system_here","_law_column_here"] (aI jd):=⟨rfl,rfl,rfl,by decide +kernel,rfl,by decide +kernel,by decide +kernel⟩
theorem Co (T:Txt K mg t):bx P w K mg base cA 1 t.uB t.kT ["_law_system_here","_law_column_here"] (Fw K):=by
 refine T._law_last.fn.ok sN (λvs H Q E h=>?_) (λcdv A outer s H vs Q E hr h=>?_)
 ·obtain⟨a,T,ca,x,ps,c,rfl,_⟩:=h
  rfl
 obtain⟨a,T0,ca,x,ps,c,rfl,hS,hc,hcl,kk⟩:=h
 refine⟨_,(ak (aN (i:=2) sN.nd rfl (by first | exact Or.inl rfl | exact Or.inr rfl) (av (wQ K) (av (wQ K) (bP (aa (fH dH aj) ah)) (pv 1)) (bP (aa (fH dH aj) ah)))) (aB (aX (aM (xQ K) (by rfl) T.tU boot_all (aa (bz (N':=["_law_k","_law_whole","_law_system_here"]) (ix:=[none,some 2,some 0]) (aK (by kernel_rfl)) rfl (bK rfl T.bW (aa (av rD (aM (cC K) (by rfl) T.bM zBh (aa (pv 2) ah)) aj) ah)) (λ_ _ _ _=>(aE (i:=0) (show List.Nodup (["_law_k","_law_whole","_law_system_here"]:List Str) from by decide +kernel) rfl (by first | exact Or.inl rfl | exact Or.inr rfl))) (λ_ _ _ _=>bJ) (λ_ _ _ _=>(iE (Om K hr.units) (bP (aa (aH (bg K) (pv 1) (pv 0) (λ_ _=>rfl)) (aa (fH dH aj) (aa (aH (bg K) (pv 1) (av aP (pv 0) aj) (λ_ _=>rfl)) (aa (fH dH aj) ah))))) (aH (bg K) (pv 2) aj (λ_ _=>rfl)) rfl))) ah))))),?_⟩
 have iz:∀{σ:L2.St} {H:Hp},Gv (AQ (rU λi=>.int (-i)) (tC (.int 1))) σ H (.int (-1)):=λ{σ H}=>wo ao
 refine bf (sA (K:=K) (sA (dN (aC iz) (by show 1<=sizeLine; decide)) (λH1 s1=>lO (af (by rfl)) (s1.tup hc)) (by rw[y3]; show 1+c.length<=sizeLine; rw[zAk]; omega)) (λH1 s1=>dN (aC iz) (by show 1<=sizeLine; decide)) (by rw[zAb,y3]; show 1+c.length+1<=sizeLine; rw[zAk]; omega) _ λwa H1 s1 Pq=>?_)
 have ew:[V.int (-1)]++c.map V.int++[V.int (-1)]=([-1]++c++[-1]).map V.int:=by simp
 rw[ew] at Pq
 refine b9 (iD (pF (jj:=((c.length+1:Nat):Int)) (aC (bA (aS (xR (K:=K) (aC (af (by rfl))) Pq) λ_ _=>ao) (by simp))) (by omega) (by omega) λH2 s2=>?_))
 rw[zAg]
 refine cH (λj=>.bl (decide ([dS c j,-1,(c++[-1]).getD j 0,-1]∈ps.map (·.2)))) (small (by omega)) (λj H4 R hj s4 k4=>?_) λD H4 hD s4 aV=>?_
 ·have hS4:=hS.same (s1.trans (s2.trans s4))
  have Pu:=(s2.trans s4).tup Pq
  rw[zero_add]
  refine dh (K2 (K:=K) (L:=T0) (k:=[dS c j,-1,(c++[-1]).getD j 0,-1]) (K1 (dN (au (aO (K:=K) (af (by rfl)) (λ_ _=>af (by rfl)) Pu (vF (by omega))) λH5 s5=>au iz λH6 s6=>au (aO (K:=K) (i:=((j+1:Nat):Int)) (af (by rfl)) (λ_ _=>bA (aS (i:=(j:Int)) (j:=1) (af (by rfl)) λ_ _=>ao) rfl) ((s5.trans s6).tup Pu) (vF (by omega))) λ_ _=>aC iz) (by show 4<=sizeLine; decide)) (by rw[D6 (by omega),JM]; rfl)) (λH5 s5=>aO (K:=K) (af (by rfl)) (λ_ _=>ao) ((hS4.same s5).1) (aG (j:=1) rfl)) hS4.2.1 hS4.2.2) λH5 s5=>k4 H5 s5
 ·refine⟨D,(range (c.length+1)).map (λj=>decide ([dS c j,-1,(c++[-1]).getD j 0,-1]∈ps.map (·.2))),rfl,aD.of (by rw[aV,zAy]; rfl),?_⟩
  have e:(((range (c.length+1)).map (λj=>decide ([dS c j,-1,(c++[-1]).getD j 0,-1]∈ps.map (·.2)))).all λb=>b)=cX (ps.map (·.2)) c:=by
   unfold cX
   rw[zD8]
   rfl
  rw[e]
  exact kk H4 (s1.trans (s2.trans s4))
end
set_option maxHeartbeats 1000000
section
variable {P:Program}{w:World}{K:zzA}{mg:Str->Option Value}{base:Heap}{t:Ad}
theorem TH {l:List Int}{k:Nat}(hk:k < l.length+1):gM (([-1]++l++[-1]).map V.int) (some (k:Int)) (some ((k+2:Nat):Int))=[.int (dS l k),.int ((l++[-1]).getD k 0)]:=by
 unfold gM
 rw[HT.mP,HT.mP,y3]
 have hl:([-1]++l++[-1]).length=l.length+2:=by simp
 rw[hl,Nat.min_eq_left (by omega),Nat.min_eq_left (by omega),zCh,←map_drop,←map_take]
 have e:([-1]++l++[-1]).drop k=dS l k::(l++[-1]).getD k 0::([-1]++l++[-1]).drop (k+2):=by
  have h1:=zCb (l:=[-1]++l++[-1]) (i:=k) (by omega)
  have h2:=zCb (l:=[-1]++l++[-1]) (i:=k+1) (by omega)
  have e1:([-1]++l++[-1])[k]'(by omega)=dS l k:=by
   have:=vF (c:=l) (k:=k) (by omega)
   rw[D6 (by omega),aG (v:=V.int (([-1]++l++[-1])[k]'(by omega))) (by rw[wP,xI (by omega)]; rfl)] at this
   exact V.int.inj (zAh this)
  have e2:([-1]++l++[-1])[k+1]'(by omega)=(l++[-1]).getD k 0:=by
   show (l++[-1])[k]'(by simp; omega)=_
   rw[y4,xI (by simp; omega)]
   rfl
  rw[h1,h2,e1,e2]
 rw[e]
 rfl
theorem JN {c:List Int}{k:Nat}(hk:c.length=k):iR (if c.map V.int=[] then [V.int (-1)] else c.map V.int) (-1)=some (.int (dS c k)):=by
 rcases List.eq_nil_or_concat c with rfl | ⟨d,v,rfl⟩
 ·subst hk
  rfl
 ·subst hk
  rw[xL (by simp)]
  unfold iR AW
  rw[xL (by decide),x4 (by simp; omega)]
  show ((d.concat v).map V.int)[(-1+(((d.concat v).map V.int).length:Int)).toNat]?=_
  have e:(-1+(((d.concat v).map V.int).length:Int)).toNat=d.length:=by simp; omega
  rw[e,wP,List.concat_eq_append,zAz (x3 _),zD7]
  unfold dS
  rw[xL (by simp),zAb]
  show _=some (V.int ((d++[v]).getD (d.length+1 - 1) 0))
  rw[zCg,cV]
  rfl
theorem zF {ts:zzB}{l c ms:List Int}{k j:Nat}{v:Int}(hj:ms[j]?=some v):g7 ts l k (ms.take (j+1)) c=g7 ts l k (ms.take j) c++if gh l c k v∈ts then [c++[v]] else []:=by
 unfold g7
 rw[zBv,hj,zDa,v4]
 congr 1
 by_cases q:gh l c k v∈ts
 ·rw[x4 q]
  simp [q]
 ·rw[xL q]
  simp [q]
theorem JO {c:List Int}:gM (c.map V.int) none (some (-1))=c.dropLast.map V.int:=by
 have e:HT.bH (c.map V.int).length (c.map V.int).length (some (-1))=c.length - 1:=by
  show (if (-1:Int) < 0 then ((-1:Int)+((c.map V.int).length:Int)).toNat else min (-1:Int).toNat (c.map V.int).length)=_
  rw[x4 (by decide),y3]
  omega
 unfold gM
 rw[e,HT.uZ,Nat.sub_zero,drop_zero,←map_take,List.dropLast_eq_take]
theorem MH {ta tb:TE}{σ:L2.St}{H:Hp}{u v:V}(h:Gv ta σ H u)(g:∀H',ai H H'->Gv tb σ H' v)(hs:AR u v=true):Gv (di Nx ta tb) σ H (.bl (decide (u=v))):=λR r=>h _ λH' s=>g H' s _ λH2 s2=>⟨hs,r H2 (s.trans s2)⟩
theorem MI {ta:TE}{σ:L2.St}{H:Hp}{b:Bool}(h:Gv ta σ H (.bl b)):Gt (fun σ H Q=>ta σ H λx H'=>∃k,xH K x H' k/\Q k H') σ H b:=λR r=>h _ λH' s=>⟨b,rfl,r H' s⟩
theorem atS {z:Str}{k:Nat}(hk:k < z.cps.size):iR z.cps.toList (k:Int)=some (z.cps.getD k 0):=aG (by
 rw[zAc,kS hk,zA0,kS hk]
 rfl)
theorem xw {p:Nat->Bool}{j:Nat}:(range (j+1)).filter p=(range j).filter p++if p j=true then [j] else []:=by
 rw[zBp,zDa]
 congr 1
 by_cases q:p j=true
 ·rw[x4 q]; simp [q]
 ·rw[xL q]; simp [q]
noncomputable def zG (K:zzA):Sp:=λvs H Q _=>∃(a T la:Addr) (x y:Str) (ps:zzD) (l:List Int) (h:Nat) (r:Bool),vs=[.ref a,.ref la,.str y,.bl r]/\Cn K H a T x ps/\aJ K H la (l.map V.int)/\l.length=h+1/\y.cps.size=h+1/\h<=3/\x.cps.size<=4/\
 ∀Z H',H Z=none->ai H H'->LT K H' Z (jz x (ps.map (·.2)) y l h λc=>!r||cX (ps.map (·.2)) c)->Q (.ref Z) H'
theorem bG:aQ ["_law_system_here","_law_left","_law_text","_law_right","_law_some","_law_k","_law_longer","_law_column_here","_law_marks","_law_mark","_law_above","_law_tile","_law_found"] ["_law_system_here","_law_left","_law_text","_law_right"] (aI gw):=⟨rfl,rfl,rfl,by decide +kernel,rfl,by decide +kernel,by decide +kernel⟩
theorem yt (T:Txt K mg t):bx P w K mg base cA 2 t.qI t.ju ["_law_system_here","_law_left","_law_text","_law_right"] (zG K):=by
 have CU:=Co (P:=P) (w:=w) (base:=base) T
 refine T._law_column.fn.ok bG (λvs H Q E h=>?_) (λcdv A outer s H vs Q E hr h=>?_)
 ·obtain⟨a,T,la,x,y,ps,l,h,r,rfl,_⟩:=h
  rfl
 obtain⟨a,T0,la,x,y,ps,l,h,r,rfl,hS,hla,hl,hy,hh,hx,kk⟩:=h
 refine⟨_,(ak (aN (i:=4) bG.nd rfl (by first | exact Or.inl rfl | exact Or.inr rfl) (bQ (aa (bP ah) ah))) (ak (b_ zA2 rfl (bK rfl T.bW (aa (av aP (aM (cC K) (by rfl) T.bM zBh (aa (pv 2) ah)) aj) ah)) (aE (i:=5) bG.nd rfl (by first | exact Or.inl rfl | exact Or.inr rfl)) (ak (aN (i:=6) bG.nd rfl (by first | exact Or.inl rfl | exact Or.inr rfl) (bQ ah)) (ak (b_ zA2 rfl (bN K (pv 4)) (aE (i:=7) bG.nd rfl (by first | exact Or.inl rfl | exact Or.inr rfl)) (ak (aN (i:=8) bG.nd rfl (by first | exact Or.inl rfl | exact Or.inr rfl) (bQ (aa (fH dH aj) ah))) (ak (fX (cG Ey (pv 5) (aM (cC K) (by rfl) T.bM zBh (aa (pv 2) ah)) (cj _)) (aB (fc (i:=8) bG.nd rfl (by first | exact Or.inl rfl | exact Or.inr rfl) (N':=["_law_mark","_law_system_here","_law_text","_law_k"]) (ix:=[none,some 0,some 2,some 5]) (aK (by kernel_rfl)) rfl (bK rfl T.bW (aa (aM (cC K) (by rfl) T.bM zBh (aa (aH (bg K) (pv 0) aj (λ_ _=>rfl)) ah)) ah)) (λ_ _ _ _=>(aE (i:=0) (show List.Nodup (["_law_mark","_law_system_here","_law_text","_law_k"]:List Str) from by decide +kernel) rfl (by first | exact Or.inl rfl | exact Or.inr rfl))) (λ_ _ _ _=>(m8 (cG jP (aH lg (aH (bg K) (pv 1) aj (λ_ _=>rfl)) (pv 0) (λ_ _=>rfl)) (aH lg (pv 2) (pv 3) (λ_ _=>rfl)) (cj _)))) (λ_ _ _ _=>(pv 0)))) dw) (aB (b_ zA2 rfl (bN K (pv 8)) (aE (i:=9) bG.nd rfl (by first | exact Or.inl rfl | exact Or.inr rfl)) (ak (aN (i:=10) bG.nd rfl (by first | exact Or.inl rfl | exact Or.inr rfl) (aH (bg K) (Tt K (pv 7) (rq (bP (aa (fH dH aj) ah)))) (fH dH aj) (λ_ _=>rfl))) (ak (aN (i:=11) bG.nd rfl (by first | exact Or.inl rfl | exact Or.inr rfl) (ki (Od K) (av (wQ K) (av (wQ K) (bP (aa (fH dH aj) ah)) (pv 1)) (bP (aa (fH dH aj) ah))) (kh (pv 5)) (kh (av aP (pv 5) aj)))) (aB (fX (cG (Om K hr.units) (bP (aa (aH (bg K) (pv 11) aj (λ_ _=>rfl)) (aa (pv 10) (aa (aH (bg K) (pv 11) aj (λ_ _=>rfl)) (aa (pv 9) ah))))) (aH (bg K) (pv 0) aj (λ_ _=>rfl)) rfl) (aB (bw (jT K zA6 zBi zBj cT (pv 6) (aa (av (wQ K) (pv 7) (bP (aa (pv 9) ah))) ah)))) dw))))))))) (aB (aN (i:=4) bG.nd rfl (by first | exact Or.inl rfl | exact Or.inr rfl) (pv 6)))))) (ak (fc (i:=12) bG.nd rfl (by first | exact Or.inl rfl | exact Or.inr rfl) (N':=["_law_column_here"]) (ix:=[none]) (aK (by kernel_rfl)) rfl (bN K (pv 4)) (λ_ _ _ _=>(aE (i:=0) (show List.Nodup (["_law_column_here"]:List Str) from by decide +kernel) rfl (by first | exact Or.inl rfl | exact Or.inr rfl))) (λ_ _ _ _=>bJ) (λ_ _ _ _=>(ki (Od K) (pv 0) pq (kh (fH dH aj))))) (aB (aX (bz (N':=["_law_one","_law_right","_law_system_here"]) (ix:=[none,some 3,some 0]) (aK (by kernel_rfl)) rfl (bN K (pv 12)) (λ_ _ _ _=>(aE (i:=0) (show List.Nodup (["_law_one","_law_right","_law_system_here"]:List Str) from by decide +kernel) rfl (by first | exact Or.inl rfl | exact Or.inr rfl))) (λ_ _ _ _=>(m8 (PW.pt (Kc (AI (wk K (pv 1) (λ_=>rfl))) (F0 (jN (aq T._law_last CU (hr.mono (by first | decide | omega)) aL (aa (pv 2) (aa (pv 0) ah))))))))) (λ_ _ _ _=>(pv 0)))))))),?_⟩
 have iz:∀{σ:L2.St} {H:Hp},Gv (AQ (rU λi=>.int (-i)) (tC (.int 1))) σ H (.int (-1)):=λ{σ H}=>wo ao
 have hyl:y.length=h+1:=hy
 have zo:x.length<=4:=hx
 generalize hts:ps.map (·.2)=ts at kk
 refine bf ⟨(by show 0<=sizeLine; decide),λe0 Vy=>⟨(by show 1<=sizeLine; decide),λS0 Le=>?_⟩⟩
 have s0:ai H (upd H e0 (.tup [])):=ai.new Vy _
 have s0':ai (upd H e0 (.tup [])) (upd (upd H e0 (.tup [])) S0 (.lst [.ref e0])):=ai.new Le _
 have l0:LT K (upd (upd H e0 (.tup [])) S0 (.lst [.ref e0])) S0 [[]]:=⟨[(e0,[])],aA,λq hq=>by
  rw[w8.mp hq]
  exact s0'.tup (aJ.of aA),rfl⟩
 have n0:H S0=none:=s0.free Le
 have Sj:=s0.trans s0'
 generalize upd (upd H e0 (.tup [])) S0 (.lst [.ref e0])=H0 at l0 Sj
 refine iN (n:=h+2) (aC (bA (aS (bZ (K:=K) (aC (af (by rfl))) (small (by omega))) λ_ _=>ao) (by rw[hyl]; rfl))) (by omega)
  (λk σ H1=>∃(S:Addr) (e5 e6 e7 e8 e9 e10 d7:Option V),σ=[some (.ref a),some (.ref la),some (.str y),some (.bl r),some (.ref S),e5,e6,e7,e8,e9,e10,d7,none]/\ai H H1/\H S=none/\LT K H1 S (gH x ts y l h k))
  (λH1 s1=>⟨S0,none,none,none,none,none,none,none,rfl,Sj.trans s1,n0,l0.same s1⟩) (λk σ H1 hk hP=>?_) fun σ H1 hP=>?_
 ·obtain⟨S,e5,e6,e7,e8,e9,e10,d7,rfl,s1,G3,Pw⟩:=hP
  obtain⟨qs,hq1,hq2,xx⟩:=Pw
  refine bf ⟨(by show 0<=sizeLine; decide),λF hF=>?_⟩
  have Vz:H F=none:=s1.free hF
  have sF:ai H1 (upd H1 F (.lst [])):=ai.new hF _
  have lF:LT K (upd H1 F (.lst [])) F []:=⟨[],aA,by simp,rfl⟩
  generalize upd H1 F (.lst [])=HF at sF lF
  generalize hcs:gH x ts y l h k=cs at xx
  have VA:k < l.length+1:=by omega
  refine mT (K:=K) (xs:=qs.map rv) (af (by rfl)) (aD.of (sF _ _ hq1))
   (λi σ H3=>∃(e7 e8 e9 e10 d7:Option V),σ=[some (.ref a),some (.ref la),some (.str y),some (.bl r),some (.ref S),some (.int (k:Int)),some (.ref F),e7,e8,e9,e10,d7,none]/\ai H1 H3/\LT K H3 F ((cs.take i).flatMap (g7 ts l k (gf x y h k))))
   (λH3 s3=>⟨e7,e8,e9,e10,d7,rfl,sF.trans s3,lF.same s3⟩) (λi σ H3 hP=>by obtain⟨_,_,_,_,_,_,s3,_⟩:=hP; exact aD.of (s3 _ _ hq1)) (λi v σ H3 hv hP=>?_) fun σ H3 hP=>?_
  ·obtain⟨e7,e8,e9,e10,d7,rfl,s3,l3⟩:=hP
   obtain⟨q,lV,rfl,cD⟩:=j7 hv
   have hc:=hq2 q lV
   rw[xx] at cD
   have iV:q.2∈gH x ts y l h k:=hcs ▸ zAj cD
   have hcl:=(gj.mp iV).1
   generalize hcc:q.2=c at hc cD hcl
   refine bf (ni (aC iz) (by show 1<=sizeLine; decide) _ λM0 H4 VB s4 TJ=>?_)
   refine Hh (fun σ' H'=>∃M,σ'=[some (.ref a),some (.ref la),some (.str y),some (.bl r),some (.ref S),some (.int (k:Int)),some (.ref F),some (.ref q.1),some (.ref M),e9,e10,d7,none]/\ai H3 H'/\H3 M=none/\H' M=some (.lst ((gf x y h k).map V.int)))
    (iH (aS (af (by rfl)) λ_ _=>bZ (K:=K) (aC (af (by rfl))) (small (by omega)))) (λck H5 s5 nx Px=>?_) (λck H5 s5=>?_) fun σ' H' hR=>?_
   ·have Py:k < h+1:=by have:=zAt ck; omega
    have Sk:=hS.same (s1.trans (s3.trans (s4.trans s5)))
    refine Gx (jj:=(x.cps.size:Int)) (aC (bZ (K:=K) (aC (aO (K:=K) (af (by rfl)) (λ_ _=>ao) Sk.1 (aG (j:=0) rfl))) (small (by omega)))) (by omega) (by omega) λH6 s6=>?_
    rw[zAg]
    refine v_ (small (by omega)) (λi ys _=>ys=((range i).filter λv=>decide (x.cps.getD v 0=y.cps.getD k 0)).map λv:Nat=>V.int (v:Int)) (λD hD=>rfl) (λD j ys H7 R1 R0 hD hj s7 aV p k1 k0=>?_) λD ys H7 hD s7 aV X_ p=>?_
    ·have hS7:=Sk.same (s6.trans s7)
     refine (show Gt _ _ _ (decide (x.cps.getD j 0=y.cps.getD k 0)) from gT (iH (MH (lu (aO (K:=K) (af (by rfl)) (λ_ _=>ao) hS7.1 (aG (j:=0) rfl)) (λ_ _=>af (by rfl)) (small (by omega)) (by rw[zero_add]; exact atS hj)) (λ_ _=>lu (af (by rfl)) (λ_ _=>af (by rfl)) (small (by omega)) (atS (by omega))) rfl)) Hz) _ λH8 s8=>?_
     by_cases q1:x.cps.getD j 0=y.cps.getD k 0
     ·rw[x4 (zAm q1)]
      refine dh (v:=.int (j:Int)) (af (by rw[zero_add]; rfl)) λH9 s9=>k1 _ _ (s8.trans s9) (by rw[p,xw,x4 (zAm q1),v4]; rfl)
     ·rw[xL (λz=>q1 (zAt z))]
      exact k0 _ s8 (by rw[p,xw,xL (λz=>q1 (zAt z)),zBc])
    ·refine Px _ _ ⟨D,rfl,(s4.trans (s5.trans (s6.trans s7))),(s4.trans (s5.trans s6)).free hD,?_⟩
     rw[aV,p]
     unfold gf
     rw[x4 Py,zAy]
     rfl
   ·have Py:¬ k < h+1:=by have:=of_decide_eq_false ck; omega
    refine⟨M0,rfl,s4.trans s5,VB,?_⟩
    rw[nK Py]
    exact s5 _ _ TJ
   ·obtain⟨M,rfl,sM,Lf,hM⟩:=hR
    generalize hms:gf x y h k=ms at hM l3
    have VC:M≠F:=λz=>by
     obtain⟨_,z1,_⟩:=l3
     rw[z,z1] at Lf
     cases Lf
    refine DQ (K:=K) (xs:=ms.map V.int) (af (by rfl)) (aD.of hM)
     (λj σ H5=>∃(e9 e10 d7:Option V),σ=[some (.ref a),some (.ref la),some (.str y),some (.bl r),some (.ref S),some (.int (k:Int)),some (.ref F),some (.ref q.1),some (.ref M),e9,e10,d7,none]/\ai H1 H5/\H5 M=some (.lst (ms.map V.int))/\LT K H5 F ((cs.take i).flatMap (g7 ts l k ms)++g7 ts l k (ms.take j) c))
     (λH5 s5=>⟨e9,e10,d7,rfl,s3.trans (sM.trans s5),s5 _ _ hM,by
      have:g7 ts l k (ms.take 0) c=[]:=rfl
      rw[this,zBc]
      exact l3.same (sM.trans s5)⟩) (λj σ H5 hP=>by obtain⟨_,_,_,_,_,h5,_⟩:=hP; exact aD.of h5) (λj u σ H5 hu hP=>?_) fun σ H5 hP=>?_
    ·obtain⟨e9,e10,d7,rfl,s5,Pz,l5⟩:=hP
     obtain⟨v,hv,rfl⟩:∃v,ms[j]?=some v/\u=.int v:=by
      rw[wP] at hu
      cases e:ms[j]? with
      | none=>rw[e] at hu; cases hu
      | some v=>rw[e] at hu; exact⟨v,rfl,(zAh hu).symm⟩
     have hc5:=s5.tup hc
     refine dM (Ra (K:=K) (Q_ (lO (af (by rfl)) hc5) λ_ _=>dN (aC iz) (by show 1<=sizeLine; decide)) (λ_ _=>iz) (JN hcl)) λH6 s6=>?_
     have TM:=(s1.trans (s5.trans s6)).tup hla
     refine bf (Q9 (K:=K) (i:=(k:Int)) (j:=((k+2:Nat):Int)) (K1 (sA (sA (dN (aC iz) (by show 1<=sizeLine; decide)) (λH7 s7=>lO (af (by rfl)) (s7.tup TM)) (by rw[y3]; show 1+l.length<=sizeLine; rw[zAk]; omega)) (λH7 s7=>dN (aC iz) (by show 1<=sizeLine; decide)) (by rw[zAb,y3]; show 1+l.length+1<=sizeLine; rw[zAk]; omega)) (show _=([-1]++l++[-1]).map V.int by simp)) (λ_ _=>af (by rfl)) (λ_ _=>bA (aS (i:=(k:Int)) (j:=2) (af (by rfl)) λ_ _=>ao) rfl) (by
      rw[HT.mP,HT.mP,y3]
      simp
      omega) _ λta H7 s7 D7=>?_)
     rw[TH VA] at D7
     have PB:=s6.trans s7
     have hS7:=hS.same (s1.trans (s5.trans PB))
     refine i8 (b:=decide (gh l c k v∈ts)) (gT (iH (K2 (K:=K) (L:=T0) (ps:=ps) (k:=gh l c k v) (dN (au (aO (K:=K) (af (by rfl)) (λ_ _=>ao) D7 (aG (j:=0) rfl)) λH8 s8=>au (af (by rfl)) λH9 s9=>au (aO (K:=K) (af (by rfl)) (λ_ _=>ao) ((s8.trans s9).tup D7) (aG (j:=1) rfl)) λ_ _=>aC (af (by rfl))) (by show 4<=sizeLine; decide)) (λH8 s8=>aO (K:=K) (af (by rfl)) (λ_ _=>ao) ((hS7.same s8).1) (aG (j:=1) rfl)) hS7.2.1 hS7.2.2)) (by rw[hts])) (λct H8 s8=>?_) λct H8 s8=>?_
     ·have s58:=PB.trans s8
      obtain⟨qs5,Sl,_,zv⟩:=id l5
      refine jC ((af (v:=.ref F) (by rfl)) _ λH9 s9=>⟨.inl ⟨rfl,_,aD.of ((s58.trans s9) _ _ Sl)⟩,iD (sA (K:=K) (lO (af (by rfl)) ((s58.trans s9).tup hc5)) (λ_ _=>dN (aC (af (v:=.int v) (by rfl))) (by show 1<=sizeLine; decide)) (by rw[y3]; show c.length+1<=sizeLine; rw[zAk]; omega) _ λp ic s10 hp=>?_)⟩)
      have Fx:=s58.trans (s9.trans s10)
      have PD:=Fx _ _ Sl
      refine⟨F,_,_,rfl,rfl,PD,?_,?_⟩
      ·have hb:qs5.length<=2000:=by
        have e1:qs5.length=(qs5.map (·.2)).length:=by rw[y3]
        rw[e1,zv,zAb]
        have b1:ms.length<=4:=by
         have:=D3 (x:=x) (y:=y) (h:=h) (k:=k)
         rw[hms] at this
         omega
        have b2:∀c' ms',(g7 ts l k ms' c').length<=ms'.length:=λc' ms'=>vE
        have b3:=fE (f:=g7 ts l k ms) (b:=4) (cs:=cs.take i) λc' _=>zAu (b2 c' ms) b1
        have b4:=b2 c (ms.take j)
        rw[zA9] at b3 b4
        have b5:=mL (ts:=ts) (y:=y) (l:=l) (h:=h) hx (k:=k)
        rw[hcs] at b5
        have b6:4 ^ min k (h+1)<=4 ^ 4:=zDy (by decide) (by omega)
        have b7:4 ^ 4=256:=rfl
        have b8:min i cs.length * 4<=256 * 4:=Nat.mul_le_mul_right 4 (by omega)
        omega
       rw[y3,zAk]
       omega
      ·refine⟨_,_,_,rfl,(s5.trans Fx).put hF _,by rw[aT VC]; exact Fx _ _ Pz,?_⟩
       rw[zF hv,x4 (zAt ct),←zA4]
       exact (l5.same Fx).snoc (by rw[v4]; exact hp) PD
     ·have s58:=PB.trans s8
      refine⟨_,_,_,rfl,s5.trans s58,s58 _ _ Pz,?_⟩
      rw[zF hv,xL (of_decide_eq_false ct),zBc]
      exact l5.same s58
    ·obtain⟨e9,e10,d7,rfl,s5,Pz,l5⟩:=hP
     refine⟨_,_,_,_,_,rfl,s5,?_⟩
     rw[y3,zBb] at l5
     rw[oH cD]
     exact l5
  ·obtain⟨e7,e8,e9,e10,d7,rfl,s3,l3⟩:=hP
   refine Oa (af (by rfl)) λH4 s4=>⟨F,_,_,_,_,_,_,_,rfl,s1.trans (s3.trans s4),Vz,?_⟩
   rw[y3] at l3
   have:cs.length=qs.length:=by rw[←xx,y3]
   rw[←this,zBb] at l3
   show LT K H4 F ((gH x ts y l h k).flatMap _)
   rw[hcs]
   exact l3.same s4
 ·obtain⟨S,e5,e6,e7,e8,e9,e10,d7,rfl,s1,G3,Pw⟩:=hP
  obtain⟨qs,hq1,hq2,xx⟩:=Pw
  generalize hcs:gH x ts y l h (h+2)=cs at xx
  have DK:qs.length<=300:=by
   have e1:qs.length=(qs.map (·.2)).length:=by rw[y3]
   have b5:=mL (ts:=ts) (y:=y) (l:=l) (h:=h) hx (k:=h+2)
   have b6:4 ^ min (h+2) (h+1)<=4 ^ 4:=zDy (by decide) (by omega)
   have b7:4 ^ 4=256:=rfl
   rw[hcs] at b5
   rw[e1,xx]
   omega
  refine BW (K:=K) (xs:=qs.map rv) (af (by rfl)) (aD.of hq1) λH2 s2 TN=>?_
  refine lq TN (small (by rw[y3]; omega)) (λi ys H3=>∃rs:zzD,ys=rs.map rv/\rs.map (·.2)=(cs.take i).map List.dropLast/\∀q∈rs,aJ K H3 q.1 (q.2.map V.int)) (λD hD=>⟨[],rfl,rfl,by simp⟩) (λD i v ys H3 R1 R0 hD hv s3 aV hP k1 k0=>?_) λD ys H3 hD s3 aV hl3 hP=>?_
  ·obtain⟨q,lV,rfl,cD⟩:=j7 hv
   rw[xx] at cD
   have iV:q.2∈gH x ts y l h (h+2):=hcs ▸ zAj cD
   have hcl:=(gj.mp iV).1
   obtain⟨rs,rfl,hr2,hr3⟩:=hP
   refine Mu (K:=K) (lO (af (by rfl)) ((s2.trans s3).tup (hq2 q lV))) (λ_ _=>iz) (λz=>?_) _ λp H4 s4 hp=>?_
   ·have z2:=z.2
    rw[y3,hcl] at z2
    have:HT.bH (h+2) (h+2) (some (-1))=h+1:=by
     show (if (-1:Int) < 0 then ((-1:Int)+((h+2:Nat):Int)).toNat else min (-1:Int).toNat (h+2))=_
     rw[x4 (by decide)]
     omega
    rw[this] at z2
    omega
   ·rw[JO] at hp
    refine k1 _ _ s4 ⟨rs++[(p,q.2.dropLast)],by rw[v4]; rfl,by rw[v4,hr2,zBv,cD,v4]; rfl,λu hu=>?_⟩
    rcases wT.mp hu with z | z
    ·exact cP (s4.tup (hr3 u z)) (s4 _ _ aV)
    ·rw[w8.mp z]
     exact cP hp (s4 _ _ aV)
  ·obtain⟨rs,rfl,hr2,hr3⟩:=hP
   have VD:cs.take (qs.map rv).length=cs:=by
    have:(qs.map rv).length=cs.length:=by rw[y3,←xx,y3]
    rw[this,zBb]
   rw[VD] at hr2
   generalize hds:cs.map List.dropLast=ds at hr2
   have hrl:rs.length<=300:=by
    have e1:rs.length=(rs.map (·.2)).length:=by rw[y3]
    have e2:qs.length=(qs.map (·.2)).length:=by rw[y3]
    rw[e1,hr2,←hds,y3,←xx,←e2]
    exact DK
   refine b9 (jS (K:=K) (xs:=rs.map rv) (af (by rfl)) (aD.of aV) λH4 s4 VE=>?_)
   have s14:=s1.trans (s2.trans (s3.trans s4))
   refine lq VE (small (by rw[y3]; omega)) (λi ys H5=>∃us:zzD,ys=us.map rv/\us.map (·.2)=(ds.take i).filter (λc=>!r||cX ts c)/\∀q∈us,aJ K H5 q.1 (q.2.map V.int)) (λD hD=>⟨[],rfl,rfl,by simp⟩) (λD2 i v ys H5 R1 R0 Sn hv s5 Fy hP k1 k0=>?_) λD2 ys H5 Sn s5 Fy So hP=>?_
   ·obtain⟨q,lV,rfl,cD⟩:=j7 hv
    rw[hr2] at cD
    obtain⟨us,rfl,HJ,hu3⟩:=hP
    have hcl:q.2.length<=20:=by
     have:=zAj cD
     rw[←hds] at this
     obtain⟨d,hd,e⟩:=x5.mp this
     have:=(D5 (hcs ▸ hd)).1
     rw[←e]
     omega
    refine (show Gt _ _ _ (!r||cX ts q.2) from Kr (Bb (MI (K:=K) (af (by rfl)))) λ_ H6 s6=>iH (iI (au (af (by rfl)) λ_ _=>aC (af (by rfl))) λH7 R s7 k7=>⟨a,T0,q.1,x,ps,q.2,rfl,hS.same (s14.trans (s5.trans (s6.trans s7))),(s4.trans (s5.trans (s6.trans s7))).tup (hr3 q lV),hcl,by rw[hts]; exact k7⟩)) _ λH6 s6=>?_
    have ef:(ds.take (i+1)).filter (λc=>!r||cX ts c)=(ds.take i).filter (λc=>!r||cX ts c)++if (!r||cX ts q.2)=true then [q.2] else []:=by
     rw[zBv,cD,zDa]
     congr 1
     by_cases z:(!r||cX ts q.2)=true
     ·rw[x4 z]; simp only [toList]; rw[zDo,x4 z,List.filter_nil]
     ·rw[xL z]; simp only [toList]; rw[zDo,xL z,List.filter_nil]
    by_cases z:(!r||cX ts q.2)=true
    ·rw[x4 z]
     refine dh (v:=.ref q.1) (af (by rfl)) λH7 s7=>k1 _ _ (s6.trans s7) ⟨us++[q],by rw[v4]; rfl,by rw[v4,HJ,ef,x4 z]; rfl,λu hu=>?_⟩
     rcases wT.mp hu with z2 | z2
     ·exact cP ((s6.trans s7).tup (hu3 u z2)) ((s6.trans s7) _ _ Fy)
     ·rw[w8.mp z2]
      exact cP ((s4.trans (s5.trans (s6.trans s7))).tup (hr3 q lV)) ((s6.trans s7) _ _ Fy)
    ·rw[xL z]
     exact k0 _ s6 ⟨us,rfl,by rw[HJ,ef,xL z,zBc],λu hu=>s6.tup (hu3 u hu)⟩
   ·obtain⟨us,rfl,HJ,hu3⟩:=hP
    refine kk D2 H5 (s14.free Sn) (s14.trans s5) ⟨us,Fy,hu3,?_⟩
    have e2:ds.take (rs.map rv).length=ds:=by
     have:(rs.map rv).length=ds.length:=by rw[y3,←hr2,y3]
     rw[this,zBb]
    rw[e2,←hds,←hcs] at HJ
    exact HJ
end
noncomputable def bh (ts:zzB):Tp:=λa b c d=>[a,b,c,d]∈ts
section
variable {x:Str}{ts:zzB}{h:Nat}
noncomputable def Go (x:Str)(ts:zzB)(h:Nat):List Int->List Str->Prop
 | l,[]=>nJ ts h l (g6 h)
 | l,y::ys=>∃c,c.length=h+1/\Ck x y h c/\nJ ts h l c/\Go x ts h c ys
theorem D8:∀(ys:List Str) (l:List Int),Go x ts h l ys->∃cs:Nat->List Int,cs 0=l/\cs (ys.length+1)=g6 h/\(∀n,n < ys.length->Ck x (ys.getD n ⟨#[]⟩) h (cs (n+1)))/\∀n,n<=ys.length->nJ ts h (cs n) (cs (n+1))
 | [],l,g=>⟨λn=>if n=0 then l else g6 h,rfl,rfl,λn hn=>absurd hn (by simp),λn hn=>by
   have:n=0:=by simpa using hn
   subst this
   exact g⟩
 | y::ys,l,⟨c,hc,hl,hf,g⟩=>by
  obtain⟨cs,e0,e1,e2,e3⟩:=D8 ys c g
  refine⟨λn=>match n with | 0=>l | n+1=>cs n,rfl,e1,λn hn=>?_,λn hn=>?_⟩
  ·cases n with
   | zero=>show Ck x y h (cs 0); rw[e0]; exact hl
   | succ n=>exact e2 n (by simpa using hn)
  ·cases n with
   | zero=>show nJ ts h l (cs 0); rw[e0]; exact hf
   | succ n=>exact e3 n (by simpa using hn)
theorem Rh {W:Nat}{g:Nat->Nat->Int}{cs:Nat->List Int}(c0:cs 0=g6 h)(cW:cs (W+1)=g6 h)(lk:∀X y,X < W->y < h+1->(cs (X+1)).getD y 0=g y X){y X:Nat}(hX:X<=W+1):bd (h+1) W g y X=if 1<=y/\y<=h+1 then (cs X).getD (y - 1) 0 else -1:=by
 by_cases c:1<=y/\y<=h+1
 ·rw[x4 c]
  by_cases z:1<=X/\X<=W
  ·have:=lk (X - 1) (y - 1) (by omega) (by omega)
   rw[show X - 1+1=X by omega] at this
   rw[this]
   exact x4 ⟨c.1,c.2,z.1,z.2⟩
  ·rw[fy (by omega)]
   have:cs X=g6 h:=by
    by_cases q:X=0
    ·rw[q,c0]
    ·rw[show X=W+1 by omega,cW]
   rw[this,pV (by omega)]
 ·rw[xL c,fy (by omega)]
theorem D9 {W:Nat}{g:Nat->Nat->Int}{cs:Nat->List Int}(c0:cs 0=g6 h)(cW:cs (W+1)=g6 h)(lk:∀X y,X < W->y < h+1->(cs (X+1)).getD y 0=g y X){X:Nat}(hX:X<=W) :
  nJ ts h (cs X) (cs (X+1))↔∀y,y<=h+1->bh ts (bd (h+1) W g y X) (bd (h+1) W g y (X+1)) (bd (h+1) W g (y+1) X) (bd (h+1) W g (y+1) (X+1)):=by
 have e:∀y Z,Z<=W+1->bd (h+1) W g y Z=if 1<=y/\y<=h+1 then (cs Z).getD (y - 1) 0 else -1:=λy Z hZ=>Rh c0 cW lk hZ
 have p1:∀y Z,Z<=W+1->y < h+1->bd (h+1) W g y Z=dS (cs Z) y:=λy Z hZ hy=>by
  rw[e y Z hZ]
  unfold dS
  by_cases q:y=0
  ·rw[xL (by omega),x4 q]
  ·rw[x4 (by omega),xL q]
 have p2:∀y Z,Z<=W+1->y < h+1->bd (h+1) W g (y+1) Z=(cs Z).getD y 0:=λy Z hZ hy=>by
  rw[e _ Z hZ,x4 (by omega),zCg]
 have p3:∀Z,Z<=W+1->bd (h+1) W g (h+1+1) Z=-1:=λZ hZ=>by rw[e _ Z hZ,xL (by omega)]
 unfold nJ bh
 constructor
 ·rintro⟨f1,f2⟩ y hy
  by_cases q:y < h+1
  ·rw[p1 y X (by omega) q,p1 y (X+1) (by omega) q,p2 y X (by omega) q,p2 y (X+1) (by omega) q]
   exact f1 y q
  ·have:y=h+1:=by omega
   subst this
   rw[p2 h X (by omega) (by omega),p2 h (X+1) (by omega) (by omega),p3 X (by omega),p3 (X+1) (by omega)]
   exact f2
 ·intro f
  refine⟨λi hi=>?_,?_⟩
  ·have:=f i (by omega)
   rwa [p1 i X (by omega) hi,p1 i (X+1) (by omega) hi,p2 i X (by omega) hi,p2 i (X+1) (by omega) hi] at this
  ·have:=f (h+1) (x3 _)
   rwa [p2 h X (by omega) (by omega),p2 h (X+1) (by omega) (by omega),p3 X (by omega),p3 (X+1) (by omega)] at this
theorem HK {y:Str}{i:Nat}{v:Int}{n:Nat}(e:y.cps.getD i 0=n):xu x ⟨#[y.cps.getD i 0]⟩ v↔∃k:Nat,v=k/\x.cps.toList[k]?=some n:=by
 unfold xu
 rw[e]
 constructor
 ·rintro⟨h1,h2,h3⟩
  have hlt:v.toNat < x.cps.size:=by show v.toNat < x.length; omega
  refine⟨v.toNat,by omega,?_⟩
  have h3:x.cps.getD v.toNat 0=n:=by simpa using h3
  rw[zA0,kS hlt] at h3
  rw[zAc,kS hlt]
  exact zA3 some h3
 ·rintro⟨k,rfl,hk⟩
  rw[zAc] at hk
  have hlt:k < x.cps.size:=(Array.getElem?_eq_some_iff.mp hk).1
  refine⟨by omega,by show (k:Int) < (x.cps.size:Int); omega,?_⟩
  rw[zAg,zA0,hk]
  simp
theorem Ri {ys:List Str}{pf:Nat->Nat->Nat}(hy:∀X i,X < ys.length->i < h+1->(ys.getD X ⟨#[]⟩).cps.getD i 0=pf i X):Lt x.cps.toList (bh ts) (h+1) ys.length pf↔Go x ts h (g6 h) ys:=by
 constructor
 ·rintro⟨g,hf,hs⟩
  let cs:Nat->List Int:=λX=>if X=0\/X=ys.length+1 then g6 h else (range (h+1)).map λy=>g y (X - 1)
  have c0:cs 0=g6 h:=x4 (.inl rfl)
  have cW:cs (ys.length+1)=g6 h:=x4 (.inr rfl)
  have cm:∀X,X < ys.length->cs (X+1)=(range (h+1)).map λy=>g y X:=λX hX=>xL (by omega)
  have lk:∀X y,X < ys.length->y < h+1->(cs (X+1)).getD y 0=g y X:=λX y hX hy=>by
   rw[cm X hX,y4,wP,List.getElem?_range hy]
   rfl
  have win:∀X,X<=ys.length->nJ ts h (cs X) (cs (X+1)):=λX hX=>(D9 c0 cW lk hX).mpr λy hy=>hs y X hy hX
  have go:∀k X,X+k=ys.length->Go x ts h (cs X) (ys.drop X):=by
   intro k
   induction k with
   | zero=>
    intro X hX
    rw[List.drop_eq_nil_of_le (by omega)]
    have:=win X (by omega)
    rw[show X+1=ys.length+1 by omega,cW] at this
    exact this
   | succ k ih=>
    intro X hX
    have hlt:X < ys.length:=by omega
    rw[zCb hlt]
    refine⟨cs (X+1),by rw[cm X hlt]; simp,λi hi=>?_,win X (by omega),ih (X+1) (by omega)⟩
    have e:=hy X i hlt hi
    have eg:ys.getD X ⟨#[]⟩=ys[X]:=by rw[y4,xI hlt]; rfl
    rw[eg] at e
    rw[HK e,lk X i hlt hi]
    exact hf i X hi hlt
  have:=go ys.length 0 (by omega)
  rwa [c0] at this
 ·intro gg
  obtain⟨cs,c0,cW,cl,cf⟩:=D8 ys _ gg
  have lk:∀X y,X < ys.length->y < h+1->(cs (X+1)).getD y 0=(λy X=>(cs (X+1)).getD y 0) y X:=λ_ _ _ _=>rfl
  refine⟨λy X=>(cs (X+1)).getD y 0,λy X Lg hX=>?_,λy X Lg hX=>(D9 c0 cW lk hX).mp (cf X hX) y Lg⟩
  have:=cl X hX y Lg
  rwa [HK (hy X y hX Lg)] at this
theorem MJ {ys:List Str}{y:Str}{S:zzB}(hS:∀l∈S,l.length=h+1){later:zzB}(hl:∀c,c∈later↔∃l∈S,c∈jz x ts y l h λc=>!(decide (ys=[]))||cX ts c) :
  (∃l∈S,Go x ts h l (y::ys))↔if ys=[] then later≠[] else ∃c∈later,Go x ts h c ys:=by
 have mem:∀c,c∈later↔(∃l∈S,c.length=h+1/\Ck x y h c/\nJ ts h l c)/\(ys=[]->cX ts c=true):=λc=>by
  rw[hl]
  constructor
  ·rintro⟨l,h1,h2⟩
   obtain⟨h3,h4⟩:=(sL (hS l h1)).mp h2
   refine⟨⟨l,h1,h3⟩,λe=>?_⟩
   rw[zAm e] at h4
   simpa using h4
  ·rintro⟨⟨l,h1,h3⟩,h4⟩
   refine⟨l,h1,(sL (hS l h1)).mpr ⟨h3,?_⟩⟩
   by_cases e:ys=[]
   ·rw[h4 e]; simp
   ·rw[zAv e]; rfl
 by_cases e:ys=[]
 ·rw[x4 e]
  subst e
  constructor
  ·rintro⟨l,h1,c,h2,h3,h4,h5⟩ z
   have:c∈later:=(mem c).mpr ⟨⟨l,h1,h2,h3,h4⟩,λ_=>(Cm h2).mpr h5⟩
   rw[z] at this
   cases this
  ·intro z
   obtain⟨c,hc⟩:=List.exists_mem_of_ne_nil _ z
   obtain⟨⟨l,h1,h2,h3,h4⟩,h5⟩:=(mem c).mp hc
   exact⟨l,h1,c,h2,h3,h4,(Cm h2).mp (h5 rfl)⟩
 ·rw[xL e]
  constructor
  ·rintro⟨l,h1,c,h2,h3,h4,h5⟩
   exact⟨c,(mem c).mpr ⟨⟨l,h1,h2,h3,h4⟩,λz=>absurd z e⟩,h5⟩
  ·rintro⟨c,hc,h5⟩
   obtain⟨⟨l,h1,h2,h3,h4⟩,_⟩:=(mem c).mp hc
   exact⟨l,h1,c,h2,h3,h4,h5⟩
end
noncomputable def JP:Nat->zzB
 | 0=>[[]]
 | n+1=>(JP n).flatMap λc=>(range 4).map λv:Nat=>c++[(v:Int)]
theorem Cp:∀n,(JP n).length<=4 ^ n
 | 0=>x3 _
 | n+1=>by
  refine zAu (fE (b:=4) λc _=>by simp) ?_
  rw[Nat.pow_succ]
  exact Nat.mul_le_mul_right 4 (Cp n)
theorem Cq:∀{n:Nat} {c:List Int},c.length=n->(∀f∈c,0<=f/\f < 4)->c∈JP n
 | 0,c,hc,_=>by
  rw[List.eq_nil_of_length_eq_zero hc]
  exact w8.mpr rfl
 | n+1,c,hc,hf=>by
  obtain⟨d,v,rfl⟩:∃d v,c=d++[v]:=by
   rcases List.eq_nil_or_concat c with rfl | ⟨d,v,rfl⟩
   ·simp at hc
   ·exact⟨d,v,by simp⟩
  have hv:=hf v (by simp)
  refine zDm.mpr ⟨d,Cq (by simpa using hc) λf hm=>hf f (by simp [hm]),x5.mpr ⟨v.toNat,zAq.mpr (by omega),?_⟩⟩
  rw[show ((v.toNat:Nat):Int)=v by omega]
theorem Cr {l:zzB}{h:Nat}(nd:l.Nodup)(hh:h<=3)(hl:∀c∈l,c.length=h+1/\∀f∈c,0<=f/\f < 4):l.length<=256:=by
 have h1:=cR nd λc hc=>Cq (hl c hc).1 (hl c hc).2
 have h2:=Cp (h+1)
 have h3:4 ^ (h+1)<=4 ^ 4:=zDy (by decide) (by omega)
 have h4:4 ^ 4=256:=rfl
 omega
set_option maxHeartbeats 1000000
noncomputable def aR (p:List Str)(y X:Nat):Nat:=(p.getD y ⟨#[]⟩).cps.getD X 0
structure dD (p:List Str)(hh wd:Nat):Prop where
 len:p.length=hh
 bO:∀r∈p,r.cps.size=wd
 h1:1<=hh
 h4:hh<=4
 w1:1<=wd
 w4:wd<=4
theorem dD.at_ {p:List Str}{hh wd:Nat}(h:dD p hh wd):∃r0 rr,p=r0::rr/\r0.cps.size=wd:=by
 cases p with
 | nil=>have h1:=h.len; have h2:=h.h1; simp at h1; omega
 | cons r0 rr=>exact⟨r0,rr,rfl,h.bO r0 zAs⟩
noncomputable def nL (p:List Str)(X:Nat):Str:=join "" ((p.map λr=>r.cps.getD X 0).map c9)
theorem Cs {p:List Str}{X:Nat}:(nL p X).cps.toList=p.map λr=>r.cps.getD X 0:=qk _
theorem D_ {p:List Str}{X i:Nat}(hi:i < p.length):(nL p X).cps.getD i 0=aR p i X:=by
 rw[zA0,←zAc,Cs,wP,xI hi]
 unfold aR
 rw[y4,xI hi]
 rfl
theorem zH {p:List Str}{X:Nat}:(nL p X).cps.size=p.length:=by rw[←u8,Cs,y3]
noncomputable def eG (p:List Str)(wd:Nat):List Str:=(range wd).map (nL p)
theorem nM {p:List Str}{wd:Nat}:(eG p wd).length=wd:=by unfold eG; simp
theorem HN {p:List Str}{wd X:Nat}(hX:X < wd):(eG p wd).drop X=nL p X::(eG p wd).drop (X+1):=by
 rw[zCb (by rw[nM]; exact hX)]
 unfold eG
 simp
theorem PJ {x:Str}{ts:zzB}{p:List Str}{h wd:Nat}(hp:p.length=h+1):Lt x.cps.toList (bh ts) (h+1) wd (aR p)↔Go x ts h (g6 h) (eG p wd):=by
 have:=Ri (x:=x) (ts:=ts) (h:=h) (ys:=eG p wd) (pf:=aR p) λX i hX hi=>by
  rw[nM] at hX
  have:(eG p wd).getD X ⟨#[]⟩=nL p X:=by unfold eG; simp [y4,hX]
  rw[this,D_ (by omega)]
 rwa [nM] at this
theorem Ct {x y:Str}{ts:zzB}{l:List Int}{h:Nat}{q:List Int->Bool}(hx:x.cps.size<=4)(hh:h<=3):(jz x ts y l h q).length<=256:=by
 unfold jz
 refine zAu (zA1 _ _) ?_
 rw[y3]
 refine zAu (mL hx) ?_
 exact zAu (zDy (by decide) (show min (h+2) (h+1)<=4 by omega)) (by decide)
theorem Cu:∀S:zzB,canLayAll0 (Dt.d9 (S.map tupI))=true
 | []=>rfl
 | c::S=>by
  show ((tupI c).py.canLay0&&canLayAll0 (Dt.d9 (S.map tupI)))=true
  rw[tQ _ (pQ c),Cu S]
  rfl
section
variable {P:Program}{w:World}{K:zzA}{mg:Str->Option Value}{base:Heap}{t:Ad}
theorem PL {tt:TA}{tb:TE}{σ:L2.St}{H:Hp}{R:VK}{v:V}{n:Nat}(h:Ga tt σ H [v])(g:∀H',ai H H'->Gv tb σ H' (.int (n:Int)))(h1:1<=n)(h2:n<=1000)(k:∀p H',ai H H'->aJ K H' p (replicate n v)->R (.ref p) H'):di (E2 K) (uY tt) tb σ H R:=
 h _ λH1 s1=>⟨(by show 1<=sizeLine; decide),λta D7=>g _ (s1.trans (ai.new D7 _)) _ λH2 s2=>⟨ta,v,n,rfl,rfl,s2.tup (aJ.of aA),h1,h2,λp H3 s3 hp=>k p H3 (s1.trans ((ai.new D7 _).trans (s2.trans s3))) hp⟩⟩
theorem PM {σ:L2.St}{H:Hp}{tt:TA}{E:XK}{a T la:Addr}{x y:Str}{ps:zzD}{l:List Int}{h:Nat}{r:Bool}(hg:Ga tt σ H [.ref a,.ref la,.str y,.bl r])(hS:Cn K H a T x ps)(hl:aJ K H la (l.map V.int))(h1:l.length=h+1)(hy:y.cps.size=h+1)(hh:h<=3)(hx:x.cps.size<=4):Gl K (gS (zG K) [] E tt) σ H (jz x (ps.map (·.2)) y l h λc=>!r||cX (ps.map (·.2)) c):=λR k=>bL hg λH1 s1=>⟨a,T,la,x,y,ps,l,h,r,rfl,hS.same s1,s1.tup hl,h1,hy,hh,hx,λZ H2 hZ s2 l2=>k Z H2 (s1.free hZ) (s1.trans s2) l2⟩
noncomputable def Cv (K:zzA):Sp:=λvs H Q _=>∃(a b:Addr) (x:Str) (ts:zzB) (p:List Str) (hh wd:Nat),vs=[.ref a,.ref b]/\dO K H a x ts/\Ou x ts/\aD K H b (p.map V.str)/\dD p hh wd/\∀(r:Bool) H',(r=true↔Lt x.cps.toList (bh ts) hh wd (aR p))->ai H H'->Q (.bl r) H'
theorem dU:aQ ["_law_system_here","_law_picture_here","_law_some","_law_x","_law_text","_law_later","_law_left"] ["_law_system_here","_law_picture_here"] (aI jX):=⟨rfl,rfl,rfl,by decide +kernel,rfl,by decide +kernel,by decide +kernel⟩
theorem kZ (T:Txt K mg t):bx P w K mg base cA 3 t.wI t.mF ["_law_system_here","_law_picture_here"] (Cv K):=by
 have Ab:=yt (P:=P) (w:=w) (base:=base) T
 refine T._law_let.fn.ok dU (λvs H Q E h=>?_) (λcdv A outer s H vs Q E hr h=>?_)
 ·obtain⟨a,b,x,ts,p,hh,wd,rfl,_⟩:=h
  rfl
 obtain⟨a,b,x,ts,p,hh,wd,rfl,hA,hO,hB,hP,k⟩:=h
 obtain⟨h,rfl⟩:∃h,hh=h+1:=⟨hh - 1,by have:=hP.h1; omega⟩
 have Yb:=hP.h4
 have hw1:=hP.w1
 have Pu:=hP.w4
 have PN:x.cps.size<=4:=hO.most
 obtain⟨r0,rr,ep,er⟩:=hP.at_
 obtain⟨TA,dR,Sq,g1,g2,g3⟩:=id hA
 have syl:∀{H'},ai H H'->Cn K H' a TA x Sq:=λs=>⟨s.tup dR,aD.of (s _ _ g1),λq hq=>s.tup (g2 q hq)⟩
 refine⟨_,(ak (aN (i:=2) dU.nd rfl (by first | exact Or.inl rfl | exact Or.inr rfl) (bQ (aa (av (QV K) (bP (aa (fH dH aj) ah)) (aM (cC K) (by rfl) T.bM zBh (aa (pv 1) ah))) ah))) (ak (b_ zA2 rfl (bK rfl T.bW (aa (aM (cC K) (by rfl) T.bM zBh (aa (aH (dF K) (pv 1) aj (λ_ _=>rfl)) ah)) ah)) (aE (i:=3) dU.nd rfl (by first | exact Or.inl rfl | exact Or.inr rfl)) (ak (aN (i:=4) dU.nd rfl (by first | exact Or.inl rfl | exact Or.inr rfl) (jT K zDq zDu zDv (wj K) k8 (aa (bz (N':=["_law_row","_law_x"]) (ix:=[none,some 3]) (aK (by kernel_rfl)) rfl (bN K (pv 1)) (λ_ _ _ _=>(aE (i:=0) (show List.Nodup (["_law_row","_law_x"]:List Str) from by decide +kernel) rfl (by first | exact Or.inl rfl | exact Or.inr rfl))) (λ_ _ _ _=>bJ) (λ_ _ _ _=>(aH lg (pv 0) (pv 1) (λ_ _=>rfl)))) ah))) (ak (aN (i:=5) dU.nd rfl (by first | exact Or.inl rfl | exact Or.inr rfl) (bQ ah)) (ak (b_ zA2 rfl (bN K (pv 2)) (aE (i:=6) dU.nd rfl (by first | exact Or.inl rfl | exact Or.inr rfl)) (aB (aN (i:=5) dU.nd rfl (by first | exact Or.inl rfl | exact Or.inr rfl) (av iZ (pv 5) (aq T._law_column Ab (hr.mono (by first | decide | omega)) aL (aa (pv 0) (aa (pv 6) (aa (pv 4) (aa (iE jP (av aP (pv 3) aj) (aM (cC K) (by rfl) T.bM zBh (aa (aH (dF K) (pv 1) aj (λ_ _=>rfl)) ah)) (cj _)) ah))))))))) (aB (aN (i:=2) dU.nd rfl (by first | exact Or.inl rfl | exact Or.inr rfl) (aM (Dr K P w) (by rfl) T.kC boot_sorted (aa (eZ (Oj K P w hr.units) (by rfl) T.KJ boot_set (aa (pv 5) ah)) ah)))))))) (aB (aX (iE (ET K hr.units) (pv 2) (bQ ah) (cj _)))))),?_⟩
 have iz:∀{σ:L2.St} {H:Hp},Gv (AQ (rU λi=>.int (-i)) (tC (.int 1))) σ H (.int (-1)):=λ{σ H}=>wo ao
 have hpl:(p.map V.str).length=h+1:=by rw[y3,hP.len]
 have row0:∀{σ:L2.St} {H':Hp},ai H H'->σ[1]?=some (some (.ref b))->Gv (di (oY K) (fB 1) (tC (.int 0))) σ H' (.str r0):=λs e=>fh (af e) (λ_ _=>ao) (s.seq hB) (by rw[ep]; exact m_ _ _)
 have wid0:∀{σ:L2.St} {H':Hp},ai H H'->σ[1]?=some (some (.ref b))->Gv (qz (λxs H Q=>∃x n,xs=[x]/\rG K x H n/\Q (.int n) H) (bE (di (oY K) (fB 1) (tC (.int 0))) cM)) σ H' (.int (wd:Int)):=λs e=>bA (bZ (K:=K) (aC (row0 s e)) (small (by show r0.cps.size<=100000; omega))) (by show V.int (r0.cps.size:Int)=_; rw[er])
 refine bf (iD (PL (K:=K) (n:=h+1) (aC iz) (λH' s=>bA (jK (K:=K) (aC (af (by rfl))) (s.seq hB)) (by rw[hpl])) (by omega) (by omega) λl0 H1 s1 Cj=>⟨(by show 1<=sizeLine; decide),λS0 Le=>?_⟩))
 have sS:=ai.new Le (.lst [.ref l0])
 have Ss:LT K (upd H1 S0 (.lst [.ref l0])) S0 [g6 h]:=⟨[(l0,g6 h)],aA,λq hq=>by
  rw[w8.mp hq]
  show aJ K _ l0 ((g6 h).map V.int)
  unfold g6
  rw[List.map_replicate]
  exact sS.tup Cj,rfl⟩
 have PR:=s1.trans sS
 generalize upd H1 S0 (.lst [.ref l0])=H2 at Ss PR
 refine iN (n:=wd) (aC (wid0 PR (by rfl))) (by omega)
  (λX σ H3=>∃(Sa:Addr) (S:zzB) (e3 e4 e5 e6:Option V),σ=[some (.ref a),some (.ref b),some (.ref Sa),e3,e4,e5,e6]/\ai H H3/\LT K H3 Sa S/\(∀l∈S,l.length=h+1)/\S.length<=256/\(Go x ts h (g6 h) (eG p wd)↔if X=wd then S≠[] else ∃l∈S,Go x ts h l ((eG p wd).drop X)))
  (λH3 s3=>⟨S0,[g6 h],none,none,none,none,rfl,PR.trans s3,Ss.same s3,λl hl=>by rw[w8.mp hl]; unfold g6; simp,by simp,by
   rw[xL (by omega),drop_zero]
   simp⟩) (λX σ H3 hX hQ=>?_) fun σ H3 hQ=>?_
 ·obtain⟨Sa,S,e3,e4,e5,e6,rfl,s3,lS,hSl,G3,hgo⟩:=hQ
  rw[xL (by omega)] at hgo
  dsimp only [bC]
  refine bf ⟨rfl,jS (K:=K) (af (by rfl)) (s3.seq hB) λH4 s4 uH=>?_⟩
  refine dG (λi=>.str (c9 ((p.getD i ⟨#[]⟩).cps.getD X 0))) uH (small (by omega)) (λi v H5 R hv s5 k5=>?_) λD H5 hD s5 aV=>?_
  ·rw[wP] at hv
   obtain⟨r,hr,rfl⟩:=zBf.mp hv
   have hrs:=hP.bO r (zAj hr)
   have er:p.getD i ⟨#[]⟩=r:=by rw[y4,hr]; rfl
   rw[er] at k5
   exact dh (lu (af (v:=.str r) (by rfl)) (λ_ _=>af (v:=.int (X:Int)) (by rfl)) (small (by show r.cps.size<=100000; omega)) (atS (by omega))) λH6 s6=>k5 H6 s6
  have hcol:(range (p.map V.str).length).map (λi=>V.str (c9 ((p.getD i ⟨#[]⟩).cps.getD X 0)))=((p.map λr=>r.cps.getD X 0).map c9).map V.str:=by
   refine zCa (by simp) λi h1 h2=>?_
   have hi:i < p.length:=by simpa using h2
   simp [y4,hi]
  rw[hcol] at aV
  refine⟨"",D,_,rfl,rfl,aD.of aV,by rw[kD,y3,y3,hP.len]; show h+1+(h+1) * 0<=16777216; omega,?_⟩
  show iW _ _ _ _ _
  have hty:(nL p X).cps.size=h+1:=by rw[zH,hP.len]
  have VF:join "" ((p.map λr=>r.cps.getD X 0).map c9)=nL p X:=rfl
  rw[VF]
  have s15:=s4.trans s5
  have s05:=s3.trans s15
  have Lh:=HN (p:=p) (wd:=wd) hX
  generalize nL p X=y at hty Lh ⊢
  generalize hr:decide (X+1=wd)=r
  refine bf (mJ (sE (K:=K)) rfl λL0 H6 Yc s6 l6=>?_)
  obtain⟨qs,q1,q2,q3⟩:=lS.same s15
  have DK:S.length=qs.length:=by rw[←q3,y3]
  have s06:=s05.trans s6
  refine mT (K:=K) (xs:=qs.map rv) (af (by rfl)) (aD.of (s6 _ _ q1))
   (λi σ H7=>∃(La:Addr) (e6:Option V),σ=[some (.ref a),some (.ref b),some (.ref Sa),some (.int (X:Int)),some (.str y),some (.ref La),e6]/\ai H5 H7/\LT K H7 La ((S.take i).flatMap λl=>jz x ts y l h λc=>!r||cX ts c))
   (λH7 s7=>⟨L0,e6,rfl,s6.trans s7,l6.same s7⟩) (λi σ H7 hQ=>by obtain⟨_,_,_,s7,_⟩:=hQ; exact aD.of (s7 _ _ q1)) (λi v σ H7 hv hQ=>?_) fun σ H7 hQ=>?_
  ·obtain⟨La,e6,rfl,s7,l7⟩:=hQ
   obtain⟨q,lV,rfl,cD⟩:=j7 hv
   rw[q3] at cD
   have hlm:=zAj cD
   generalize hcc:q.2=l at cD hlm
   have Ci:aJ K H5 q.1 (l.map V.int):=hcc ▸ q2 q lV
   dsimp only [bC]
   have lb:((S.take i).flatMap λl=>jz x ts y l h λc=>!r||cX ts c).length<=256 * 256:=by
    have h1:=fE (f:=λl=>jz x ts y l h λc=>!r||cX ts c) (b:=256) (cs:=S.take i) λl _=>Ct PN (by omega)
    have h2:(S.take i).length<=256:=by rw[zA9]; omega
    exact zAu h1 (Nat.mul_le_mul_right 256 h2)
   have lc:=Ct (x:=x) (y:=y) (ts:=ts) (l:=l) (h:=h) (q:=λc=>!r||cX ts c) PN (by omega)
   refine xP (mJ (BY (kF (af (by rfl)) l7) (λH8 s8=>(K8 (PM (x:=x) (y:=y) (ps:=Sq) (l:=l) (h:=h) (r:=r) (au (af (by rfl)) λ_ sa=>au (af (by rfl)) λ_ sb=>au (af (by rfl)) λH9 s9=>aC (bA (i7 (aS (af (v:=.int (X:Int)) (by rfl)) λ_ _=>ao) (λic s10=>wid0 (s05.trans (s7.trans (s8.trans (sa.trans (sb.trans (s9.trans s10)))))) (by rfl)) (by rfl)) (by rw[←hr]; congr 1; simp; omega))) (syl (s05.trans (s7.trans s8))) ((s7.trans s8).tup Ci) (hSl l hlm) hty (by omega) PN) (by rw[g3])).k) (by omega)) rfl λVG H8 hn s8 l8=>⟨VG,_,rfl,s7.trans s8,?_⟩)
   rw[oH cD]
   exact l8
  ·obtain⟨La,e6,rfl,s7,l7⟩:=hQ
   rw[y3,←DK,zBb] at l7
   generalize hL:(S.flatMap λl=>jz x ts y l h λc=>!r||cX ts c)=L at l7
   have memL:∀c,c∈L↔∃l∈S,c∈jz x ts y l h λc=>!r||cX ts c:=λc=>by rw[←hL,zDm]
   have okL:∀c∈L,c.length=h+1/\∀f∈c,0<=f/\f < 4:=λc hc=>by
    obtain⟨l,hl,hcl⟩:=(memL c).mp hc
    obtain⟨⟨h1,h2,_⟩,_⟩:=(sL (hSl l hl)).mp hcl
    refine⟨h1,λf hf=>?_⟩
    obtain⟨i,hi,rfl⟩:=zDc.mp hf
    have:=h2 i (by omega)
    have eg:c.getD i 0=c[i]:=by rw[y4,xI hi]; rfl
    rw[eg] at this
    have h3:c[i] < (x.cps.size:Int):=this.2.1
    exact⟨this.1,by omega⟩
   obtain⟨ps,l1,l2,l3⟩:=l7
   have mps:∀u∈ps,u.2∈L:=λu hu=>l3 ▸ zA5 hu
   refine xP (ng (ng ((af (v:=.ref La) (by rfl)) _ λH8 s8=>⟨La,ps,rfl,aD.of (s8 _ _ l1),λu hu=>s8.tup (l2 u hu),λl nd hk=>?_,λS' us hS' m1 m2 nd=>?_⟩)))
   ·refine zAu (Cr (h:=h) nd (by omega) λc hc=>?_) (by decide)
    obtain⟨u,hu,rfl⟩:=hk c hc
    exact okL _ (mps u hu)
   ·have Su:=ai.new hS' (u9 P w S' us)
    have VH:us.length<=256:=by
     have:=Cr nd (h:=h) (by omega) λc hc=>by
      obtain⟨u,hu,rfl⟩:=x5.mp hc
      exact okL _ (mps u (m1 u hu))
     rwa [y3] at this
    refine⟨S',us,rfl,aA,λu hu=>(s8.trans Su).tup (l2 u (m1 u hu)),λu hu e=>?_,by omega,λl rs hl pm pw=>?_⟩
    ·have:=(okL _ (mps u (m1 u hu))).1
     rw[e] at this
     cases this
    ·have sl:=ai.new hl (.lst (rs.map rv))
     have all:=s8.trans (Su.trans sl)
     have mr:∀c,c∈rs.map (·.2)↔c∈L:=λc=>by
      constructor
      ·intro z
       obtain⟨u,hu,rfl⟩:=x5.mp z
       exact mps u (m1 u (pm.mem_iff.mp hu))
      ·intro z
       rw[←l3] at z
       obtain⟨u,hu,rfl⟩:=x5.mp z
       obtain⟨v,hv,e⟩:=m2 u hu
       exact x5.mpr ⟨v,pm.mem_iff.mpr hv,e⟩
     refine⟨l,rs.map (·.2),_,_,_,_,rfl,s05.trans (s7.trans all),⟨rs,aA,λu hu=>all.tup (l2 u (m1 u (pm.mem_iff.mp hu))),rfl⟩,λc hc=>(okL c ((mr c).mp hc)).1,by rw[y3,pm.length_eq]; exact VH,?_⟩
     rw[hgo,Lh]
     have e:((eG p wd).drop (X+1)=[])↔X+1=wd:=by
      rw[List.drop_eq_nil_iff,nM]
      omega
     have ed:decide ((eG p wd).drop (X+1)=[])=r:=by rw[←hr]; exact decide_eq_decide.mpr e
     rw[MJ hSl (later:=rs.map (·.2)) λc=>by rw[mr,memL,ed]]
     by_cases q:X+1=wd
     ·rw[x4 (e.mpr q),x4 q]
     ·rw[xL (λz=>q (e.mp z)),xL q]
 ·obtain⟨Sa,S,e3,e4,e5,e6,rfl,s3,lS,hSl,G3,hgo⟩:=hQ
  rw[x4 rfl] at hgo
  refine dJ (v:=.bl (!decide (S=[]))) ?_ λH4 s4=>k _ H4 ?_ (s3.trans s4)
  ·intro R r
   refine (af (v:=.ref Sa) (by rfl)) _ λH4 s4=>(ni (xs:=[]) (tt:=cM) (λR r=>r H4 (λ_ _ e=>e)) (zAw _)) _ λq H5 hq s5 So=>⟨.lst (S.map tupI),.lst [],⟨Cu S,rfl,?_⟩,(lS.same (s4.trans s5)).rep,by unfold Rep; exact⟨q,[],rfl,aD.of So,by unfold aF; rfl⟩,?_⟩
   ·show min _ (0+1)<=60
    omega
   ·have e:eqv (Dt.lst (S.map tupI)).py (Dt.lst []).py=decide (S=[]):=by
     cases S with
     | nil=>rfl
     | cons c S=>rfl
    rw[e,Bool.true_xor]
    exact r H5 (s4.trans s5)
  ·rw[PJ hP.len,hgo]
   simp
end
theorem PU {x:Str}{a b:Nat}{lo hi:Option Int}(ha:a<=b)(hb:b<=x.length)(e:strSliceIndices lo hi 1 x.length=strSliceIndices (some (a:Int)) (some (b:Int)) 1 x.length):(bV x lo hi none).cps.toList=(x.cps.toList.drop a).take (b - a):=by
 unfold bV
 rw[Option.getD_none,e]
 split
 ·rename_i c
  simp only [beq_self_eq_true,Bool.true_and,zDz] at c
  rw[PySem.StrLaws.strSliceIndices_plain ha hb,y3,zBd] at c
  have h1:a=0:=by omega
  subst h1
  rw[drop_zero,zC0 (by show x.cps.toList.length<=_; rw[u8]; show x.length<=_; omega)]
 ·exact PySem.StrLaws.sliced_plain x ha hb
theorem HP {x:Str}{k:Nat}(hk:k<=x.cps.size):(bV x none (some (k:Int)) none).cps.toList=x.cps.toList.take k:=by
 have:=PU (x:=x) (a:=0) (b:=k) (lo:=none) (hi:=some (k:Int)) (zAw _) hk (by
  have z:max (0:Int) (min 0 (x.length:Int))=0:=by omega
  simp [strSliceIndices,z])
 rwa [drop_zero,Nat.sub_zero] at this
theorem HQ {x:Str}{k:Nat}(hk:k<=x.cps.size):(bV x (some (k:Int)) none none).cps.toList=x.cps.toList.drop k:=by
 have:=PU (x:=x) (a:=k) (b:=x.length) (lo:=some (k:Int)) (hi:=none) hk (x3 _) (by
  have z:max (0:Int) (min (if (x.length:Int) < 0 then (x.length:Int)+(x.length:Int) else (x.length:Int)) (x.length:Int))=x.length:=by rw[xL (by omega)]; omega
  simp [strSliceIndices,z])
 rwa [zC0 (by rw[zBx,u8]; exact x3 _)] at this
theorem kK {x:Str}{l:List Nat}(e:x.cps.toList=l)(i:Nat):x.cps.getD i 0=l.getD i 0:=by
 rw[←e,y4,zAc,zA0]
theorem t_ {L:List Nat}{T:Tp}{h w:Nat}{p p':Nat->Nat->Nat}(e:∀y x,y < h->x < w->p y x=p' y x):Lt L T h w p↔Lt L T h w p':=by
 have one:∀{p p':Nat->Nat->Nat},(∀y x,y < h->x < w->p y x=p' y x)->Lt L T h w p->Lt L T h w p':=λ{p p'} e ⟨g,hf,hs⟩=>⟨g,λy x hy hx=>by rw[←e y x hy hx]; exact hf y x hy hx,hs⟩
 exact⟨one e,one λy x hy hx=>(e y x hy hx).symm⟩
theorem yu {L:List Nat}{T T':Tp}{h w:Nat}{p:Nat->Nat->Nat}(e:∀a b c d,T a b c d↔T' a b c d):Lt L T h w p↔Lt L T' h w p:=⟨mono (λ_ _ z=>z) λa b c d=>(e a b c d).mp,mono (λ_ _ z=>z) λa b c d=>(e a b c d).mpr⟩
section
variable {x y:Str}{ts us:zzB}
theorem ua {n:Nat}(h:∀t∈ts,aU n t):Fl n (bh ts):=λa b c d t=>by
 have:=(h _ t).2
 exact⟨this a (by simp),this b (by simp),this c (by simp),this d (by simp)⟩
theorem uc {n:Nat}(h:∀t∈us,t.length=4)(a b c d:Int):sC n (bh us) a b c d↔bh (us.map λc=>c.map (mv n)) a b c d:=by
 constructor
 ·rintro⟨a',b',c',d',t,rfl,rfl,rfl,rfl⟩
  exact x5.mpr ⟨_,t,rfl⟩
 ·intro t
  obtain⟨u,hu,e⟩:=x5.mp t
  match u,h u hu with
  | [a',b',c',d'],_=>
   simp at e
   exact⟨a',b',c',d',hu,e.1.symm,e.2.1.symm,e.2.2.1.symm,e.2.2.2.symm⟩
theorem sO {a b:Int}:cZ [a,b]=true↔a=-1/\b=-1:=by unfold cZ; simp
theorem HR {a b:Int}:cZ [a,b]=false↔¬ (a=-1/\b=-1):=by rw[←sO]; simp
theorem Cw {a b c d:Int}:gZ [a,c] [b,d]=true↔(a=-1↔b=-1)/\(c=-1↔d=-1):=by unfold gZ; simp
theorem Eb {cs ds:zzB}(hc:∀t∈cs,t.length=4)(hd:∀t∈ds,t.length=4){a b c d:Int}:bh (nH cs ds) a b c d↔(bh cs a b c d/\¬ (b=-1/\d=-1))\/(bh ds a b c d/\¬ (a=-1/\c=-1))\/(bh cs a (-1) c (-1)/\bh ds (-1) b (-1) d/\(a=-1↔b=-1)/\(c=-1↔d=-1)):=by
 unfold bh
 rw[DT]
 refine or_congr (and_congr_right λ_=>HR) (or_congr (and_congr_right λ_=>HR) ?_)
 rw[B7]
 constructor
 ·rintro⟨u,hu,v,hv,e1,e2,e3,e4⟩
  match u,hc u hu,v,hd v hv with
  | [a',b',c',d'],_,[VI,b'',c'',d''],_=>
   obtain⟨rfl,rfl⟩:=sO.mp (show cZ [b',d']=true from e1)
   obtain⟨rfl,rfl⟩:=sO.mp (show cZ [VI,c'']=true from e2)
   have e4:[a,b,c,d]=[a',b'',c',d'']:=e4
   simp at e4
   obtain⟨rfl,rfl,rfl,rfl⟩:=e4
   exact⟨hu,hv,Cw.mp e3⟩
 ·rintro⟨hu,hv,e⟩
  exact⟨_,hu,_,hv,sO.mpr ⟨rfl,rfl⟩,sO.mpr ⟨rfl,rfl⟩,Cw.mpr e,rfl⟩
theorem nN (h:∀t∈ts,t.length=4){a b c d:Int}:bh (ts.map iU) a b c d↔bh ts a c b d:=by
 constructor
 ·intro z
  obtain⟨u,hu,e⟩:=x5.mp z
  match u,h u hu with
  | [a',b',c',d'],_=>
   simp [iU] at e
   obtain⟨rfl,rfl,rfl,rfl⟩:=e
   exact hu
 ·exact λz=>x5.mpr ⟨_,z,rfl⟩
theorem JQ (h:∀t∈ts,t.length=4){a b c d:Int}:bh (ts.map qM) a b c d↔bh ts b a d c:=by
 constructor
 ·intro z
  obtain⟨u,hu,e⟩:=x5.mp z
  match u,h u hu with
  | [a',b',c',d'],_=>
   simp [qM] at e
   obtain⟨rfl,rfl,rfl,rfl⟩:=e
   exact hu
 ·exact λz=>x5.mpr ⟨_,z,rfl⟩
variable {ws:zzB}{h w:Nat}{p:Nat->Nat->Nat}
theorem lQ {n:Nat}{cs:zzB}(h:∀t∈cs,aU n t):∀t∈cs,t.length=4:=λt ht=>(h t ht).1
theorem HS (hM:In x ts)(hN:In y us)(hw:∀c,c∈ws↔c∈yh x.length ts us)(h1:1<=h)(w1:1<=w):Lt (x++y).cps.toList (bh ws) h w p↔Lt x.cps.toList (bh ts) h w p\/Lt y.cps.toList (bh us) h w p:=by
 have e1:x.cps.toList.length=x.length:=u8
 have e2:y.cps.toList.length=y.length:=u8
 rw[t6,←Fc h1 w1 (by rw[e1]; exact ua hM.ok) (by rw[e2]; exact ua hN.ok),e1]
 refine yu λa b c d=>?_
 rw[uc (lQ hN.ok)]
 exact (hw _).trans wT
theorem HU (hM:In x ts)(hN:In y us)(hw:∀c,c∈ws↔c∈B_ x.length ts us)(h1:1<=h)(w1:1<=w):Lt (x++y).cps.toList (bh ws) h w p↔∃k,1<=k/\k < w/\Lt x.cps.toList (bh ts) h k p/\Lt y.cps.toList (bh us) h (w - k) (λy x=>p y (k+x)):=by
 have e1:x.cps.toList.length=x.length:=u8
 have e2:y.cps.toList.length=y.length:=u8
 rw[t6,←wV h1 w1 (by rw[e1]; exact ua hM.ok) (by rw[e2]; exact ua hN.ok),e1]
 refine yu λa b c d=>((hw _).trans (Eb (lQ hM.ok) (lQ (eE hN).1))).trans ?_
 unfold sD
 rw[uc (lQ hN.ok),uc (lQ hN.ok)]
theorem MK (hM:In x ts)(hN:In y us)(hw:∀c,c∈ws↔c∈yj x.length ts us)(h1:1<=h)(w1:1<=w):Lt (x++y).cps.toList (bh ws) h w p↔∃k,1<=k/\k < h/\Lt x.cps.toList (bh ts) k w p/\Lt y.cps.toList (bh us) (h - k) w (λy x=>p (k+y) x):=by
 have e1:x.cps.toList.length=x.length:=u8
 have e2:y.cps.toList.length=y.length:=u8
 rw[t6,←JB h1 w1 (by rw[e1]; exact ua hM.ok) (by rw[e2]; exact ua hN.ok),e1]
 refine yu λa b c d=>?_
 have m4:=lQ (eE (n:=x.length) hN).1
 refine (hw _).trans ((nN (lQ (wY hM hN).1)).trans ((Eb (yi hM.dQ).1 (yi (eE hN).2).1).trans ?_))
 unfold uJ sD
 have Sv:∀a b c d,sC x.length (λa b c d=>bh us a c b d) a b c d↔bh ((us.map λc=>c.map (mv x.length)).map iU) a b c d:=λa b c d=>by
  rw[nN m4,←uc (lQ hN.ok)]
  constructor
  ·rintro⟨a',b',c',d',t,z1,z2,z3,z4⟩
   exact⟨a',c',b',d',t,z1,z3,z2,z4⟩
  ·rintro⟨a',b',c',d',t,z1,z2,z3,z4⟩
   exact⟨a',c',b',d',t,z1,z3,z2,z4⟩
 rw[Sv,Sv,nN (lQ hM.ok),nN (lQ hM.ok)]
theorem PV (hM:In x ts)(hw:∀c,c∈ws↔c∈ts.map qM):Lt x.cps.toList (bh ws) h w p↔Lt x.cps.toList (bh ts) h w (λy X=>p y (w - 1 - X)):=by
 rw[←Mv]
 exact yu λa b c d=>(hw _).trans (JQ (lQ hM.ok))
theorem PX (hM:In x ts)(hw:∀c,c∈ws↔c∈ts.map iU):Lt x.cps.toList (bh ws) h w p↔Lt x.cps.toList (bh ts) w h (λy X=>p X y):=by
 rw[←pP]
 exact yu λa b c d=>(hw _).trans (nN (lQ hM.ok))
theorem oQ {x:Str}{i v:Nat}:x.cps.toList[i]?=some v↔i < x.cps.size/\x.cps.getD i 0=v:=by
 rw[zAc,zA0]
 constructor
 ·intro e
  rw[e]
  exact⟨(Array.getElem?_eq_some_iff.mp e).1,rfl⟩
 ·rintro⟨h1,h2⟩
  rw[kS h1] at h2 ⊢
  exact zA3 some h2
theorem PY {z:Str}(hz:z.cps.toList=(dm x y x.cps.size).map λp=>x.cps.getD p.1 0):O1 (dm x y x.cps.size) z.cps.toList x.cps.toList y.cps.toList:=by
 refine⟨λk i j e=>?_,λi j v e1 e2=>?_,by rw[hz,y3]⟩
 ·obtain⟨h1,h2,h3⟩:=gK.mp (zAj e)
  refine⟨x.cps.getD i 0,oQ.mpr ⟨h1,rfl⟩,oQ.mpr ⟨h2,h3.symm⟩,?_⟩
  rw[hz,wP,e]
  rfl
 ·obtain⟨h1,h2⟩:=oQ.mp e1
  obtain⟨h3,h4⟩:=oQ.mp e2
  have:(i,j)∈dm x y x.cps.size:=gK.mpr ⟨h1,h3,by rw[h2,h4]⟩
  exact zB2.mp this
theorem ud {f g f':Int}(hf:-1<=f)(hg:-1<=g)(q:Ph (dm x y x.cps.size) f g):jh y g=jh x f:=by
 unfold jh
 rcases q with ⟨rfl,rfl⟩ | ⟨i,j,rfl,rfl,hm⟩
 ·rfl
 ·rw[xL (by omega),xL (by omega),zAg,zAg,(gK.mp hm).2.2]
theorem ML {z:Str}(hM:In x ts)(hN:In y us)(hz:z.cps.toList=(dm x y x.cps.size).map λp=>x.cps.getD p.1 0)(hw:∀c,c∈ws↔c∈gR x y ts us):Lt z.cps.toList (bh ws) h w p↔Lt x.cps.toList (bh ts) h w p/\Lt y.cps.toList (bh us) h w p:=by
 rw[←CQ (PY hz)]
 refine yu λa b c d=>(hw _).trans ?_
 rw[DZ]
 have nd:=sJ (x:=x) (y:=y) x.cps.size
 constructor
 ·rintro⟨u,hu,v,hv,e,q⟩
  have pr:=pT (hM.ok u hu) (hN.ok v hv) e
  match u,(hM.ok u hu).1,v,(hN.ok v hv).1 with
  | [a1,b1,c1,d1],_,[a2,b2,c2,d2],_=>
   have q:[a,b,c,d]=[lW _ a1 a2,lW _ b1 b2,lW _ c1 c2,lW _ d1 d2]:=q
   simp at q
   obtain⟨rfl,rfl,rfl,rfl⟩:=q
   exact⟨a1,b1,c1,d1,a2,b2,c2,d2,hu,hv,pU (pr 0 (by omega)),pU (pr 1 (by omega)),pU (pr 2 (by omega)),pU (pr 3 (by omega))⟩
 ·rintro⟨a1,b1,c1,d1,a2,b2,c2,d2,hu,hv,p1,p2,p3,p4⟩
  have o1:=(hM.ok _ hu).2
  have o2:=(hN.ok _ hv).2
  obtain⟨i1,rfl⟩:=xq nd p1
  obtain⟨i2,rfl⟩:=xq nd p2
  obtain⟨i3,rfl⟩:=xq nd p3
  obtain⟨i4,rfl⟩:=xq nd p4
  refine⟨_,hu,_,hv,?_,rfl⟩
  show Dt.tup [jh y a2,jh y b2,jh y c2,jh y d2]=Dt.tup [jh x a1,jh x b1,jh x c1,jh x d1]
  rw[ud (f':=0) (o1 a1 (by simp)).1 (o2 a2 (by simp)).1 i1,ud (f':=0) (o1 b1 (by simp)).1 (o2 b2 (by simp)).1 i2,ud (f':=0) (o1 c1 (by simp)).1 (o2 c2 (by simp)).1 i3,ud (f':=0) (o1 d1 (by simp)).1 (o2 d2 (by simp)).1 i4]
end
set_option maxHeartbeats 1000000
noncomputable def ltB (x:Str) (ts:zzB) (h w:Nat) (pf:Nat->Nat->Nat):Bool:=@decide (Lt x.cps.toList (bh ts) h w pf) (Classical.propDecidable _)
theorem ltB_iff {x:Str}{ts:zzB}{h w:Nat}{pf:Nat->Nat->Nat}:ltB x ts h w pf=true↔Lt x.cps.toList (bh ts) h w pf:=by unfold ltB; exact @decide_eq_true_iff _ (Classical.propDecidable _)
theorem yv {p:List Str}{f:Str->Str}{y X:Nat}(hy:y < p.length):aR (p.map f) y X=(f (p.getD y ⟨#[]⟩)).cps.getD X 0:=by
 unfold aR
 rw[y4,wP,y4,xI hy]
 rfl
section
variable {p:List Str}{hh wd k:Nat}
theorem dD.row (hP:dD p hh wd){y:Nat}(hy:y < hh):(p.getD y ⟨#[]⟩).cps.size=wd:=by
 have hl:y < p.length:=by rw[hP.len]; exact hy
 rw[y4,xI hl]
 exact hP.bO _ (zB9 hl)
theorem dD.map (hP:dD p hh wd){f:Str->Str}{w':Nat}(h1:1<=w')(h4:w'<=4)(hf:∀r∈p,(f r).cps.size=w'):dD (p.map f) hh w':=⟨by rw[y3]; exact hP.len,λr hr=>by
 obtain⟨q,hq,rfl⟩:=x5.mp hr
 exact hf q hq,hP.h1,hP.h4,h1,h4⟩
theorem size_of {x:Str}{l:List Nat}(e:x.cps.toList=l):x.cps.size=l.length:=by rw[←e,u8]
theorem JR (hP:dD p hh wd)(h1:1<=k)(h2:k < wd):dD (p.map λr=>bV r none (some (k:Int)) none) hh k:=hP.map h1 (by have:=hP.w4; omega) λr hr=>by
 have:=hP.bO r hr
 rw[size_of (HP (by omega)),zA9,u8]
 omega
theorem HV (hP:dD p hh wd)(h1:1<=k)(h2:k < wd):dD (p.map λr=>bV r (some (k:Int)) none none) hh (wd - k):=hP.map (by omega) (by have:=hP.w4; omega) λr hr=>by
 have:=hP.bO r hr
 rw[size_of (HQ (by omega)),zBx,u8]
 omega
theorem JS (hP:dD p hh wd)(h2:k < wd){y X:Nat}(hy:y < hh)(hX:X < k):aR (p.map λr=>bV r none (some (k:Int)) none) y X=aR p y X:=by
 have:=hP.row hy
 rw[yv (by rw[hP.len]; exact hy),kK (HP (by omega)),y4,List.getElem?_take_of_lt hX]
 unfold aR
 rw[kK rfl,y4,y4]
theorem HW (hP:dD p hh wd)(h2:k < wd){y X:Nat}(hy:y < hh):aR (p.map λr=>bV r (some (k:Int)) none none) y X=aR p y (k+X):=by
 have:=hP.row hy
 rw[yv (by rw[hP.len]; exact hy),kK (HQ (by omega)),y4,zDr]
 unfold aR
 rw[kK rfl,y4,y4]
theorem MM (hP:dD p hh wd)(h1:1<=k)(h2:k < hh):dD (p.take k) k wd:=⟨by rw[zA9,hP.len]; omega,λr hr=>hP.bO r (zDb hr),h1,by have:=hP.h4; omega,hP.w1,hP.w4⟩
theorem MN (hP:dD p hh wd)(h1:1<=k)(h2:k < hh):dD (p.drop k) (hh - k) wd:=⟨by rw[zBx,hP.len],λr hr=>hP.bO r (zCi hr),by omega,by have:=hP.h4; omega,hP.w1,hP.w4⟩
theorem MO {y X:Nat}(hy:y < k):aR (p.take k) y X=aR p y X:=by
 unfold aR
 rw[y4,List.getElem?_take_of_lt hy,y4]
theorem MP {y X:Nat}:aR (p.drop k) y X=aR p (k+y) X:=by
 unfold aR
 rw[y4,zDr,y4]
end
section
variable {P:Program}{w:World}{K:zzA}{mg:Str->Option Value}{base:Heap}{t:Ad}
theorem ue {σ:L2.St}{H:Hp}{ta tb:TE}{E:XK}{a:Addr}{x:Str}{ts:zzB}{p:List Str}{hh wd:Nat}(ha:Gv ta σ H (.ref a))(hA:dO K H a x ts)(hO:Ou x ts)(hb:∀H',ai H H'->∀R:VK,(∀b H2,ai H' H2->aD K H2 b (p.map V.str)->R (.ref b) H2)->tb σ H' R)(hP:dD p hh wd):Gv (gS (Cv K) [] E (bE ta (bE tb cM))) σ H (.bl (ltB x ts hh wd (aR p))):=λR r=>ha _ λH1 s1=>hb H1 s1 _ λb H2 s2 hB=>⟨a,b,x,ts,p,hh,wd,rfl,hA.same (s1.trans s2),hO,hB,hP,λr' H3 e s3=>by
 have:r'=ltB x ts hh wd (aR p):=by rw[zCe,ltB_iff]; exact e
 rw[this]
 exact r H3 (s1.trans (s2.trans s3))⟩
theorem kL {σ:L2.St}{H:Hp}{ta tb:TE}{E:XK}{a b:Addr}{x:Str}{ts:zzB}{p:List Str}{hh wd:Nat}(ha:Gv ta σ H (.ref a))(hA:dO K H a x ts)(hO:Ou x ts)(hb:∀H',ai H H'->Gv tb σ H' (.ref b))(hB:aD K H b (p.map V.str))(hP:dD p hh wd):Gv (gS (Cv K) [] E (bE ta (bE tb cM))) σ H (.bl (ltB x ts hh wd (aR p))):=ue ha hA hO (λH' s R r=>hb H' s _ λH2 s2=>r b H2 s2 ((s.trans s2).seq hB)) hP
theorem Cy {σ:L2.St}{H:Hp}{tb:TE}{p:List Str}(h:Gn tb σ H (p.map V.str))(R:VK)(r:∀b H2,ai H H2->aD K H2 b (p.map V.str)->R (.ref b) H2):tb σ H R:=h R λb H2 _ s l=>r b H2 s (aD.of l)
noncomputable def yy (K:zzA)(F:Str->zzB->Str->zzB->Nat->Nat->(Nat->Nat->Nat)->Prop):Sp:=λvs H Q _=>∃(a b c:Addr) (x y:Str) (ts us:zzB) (p:List Str) (hh wd:Nat),vs=[.ref a,.ref b,.ref c]/\dO K H a x ts/\Ou x ts/\dO K H b y us/\Ou y us/\aD K H c (p.map V.str)/\dD p hh wd/\∀(r:Bool) H',(r=true↔F x ts y us hh wd (aR p))->ai H H'->Q (.bl r) H'
noncomputable def zI (x:Str)(ts:zzB)(y:Str)(us:zzB)(h w:Nat)(p:Nat->Nat->Nat):Prop:=∃k,1<=k/\k < w/\Lt x.cps.toList (bh ts) h k p/\Lt y.cps.toList (bh us) h (w - k) (λy x=>p y (k+x))
noncomputable def zJ (x:Str)(ts:zzB)(y:Str)(us:zzB)(h w:Nat)(p:Nat->Nat->Nat):Prop:=∃k,1<=k/\k < h/\Lt x.cps.toList (bh ts) k w p/\Lt y.cps.toList (bh us) (h - k) w (λy x=>p (k+y) x)
theorem Cz {tt:TA}{g:TG}{tb us:TS}{D:Ends}{σ:L2.St}{H:Hp}{lo n:Nat}(h:Ga tt σ H [.int (lo:Int),.int ((lo+n:Nat):Int)])(hn:lo+n<=1000)(Pv:Nat->L2.St->Hp->Prop)(h0:∀H',ai H H'->Pv 0 σ H')
  (hs:∀i σ H,i < n->Pv i σ H->g (.int ((lo:Int)+(i:Int))) σ H fun σ2 H2=>tb { D with nx:=Pv (i+1),ct:=Pv (i+1),bk:=us D } σ2 H2) (hd:∀σ H,Pv n σ H->us D σ H):iW (oX (Ew tt) g tb) us D σ H:=
 h _ λH' s=>⟨(lo:Int),((lo+n:Nat):Int),rfl,⟨by omega,by omega,by omega,by omega⟩,by
  have e:(((lo+n:Nat):Int) - (lo:Int)).toNat=n:=by omega
  rw[e]
  exact yQ (lo:=(lo:Int)) (n:=n) (D:={ D with nx:=us D }) Pv (h0 H' s) hs hd⟩
theorem sR:aQ ["_law_one","_law_other","_law_picture_here","_law_y"] ["_law_one","_law_other","_law_picture_here"] (aI je):=⟨rfl,rfl,rfl,by decide +kernel,rfl,by decide +kernel,by decide +kernel⟩
theorem CA (T:Txt K mg t):bx P w K mg base cA 4 t.uC t.kU ["_law_one","_law_other","_law_picture_here"] (yy K zJ):=by
 have cu:=kZ (P:=P) (w:=w) (base:=base) T
 refine T._law_over.fn.ok sR (λvs H Q E h=>?_) (λcdv A outer s H vs Q E hr h=>?_)
 ·obtain⟨a,b,c,x,y,ts,us,p,hh,wd,rfl,_⟩:=h
  rfl
 obtain⟨a,b,c,x,y,ts,us,p,hh,wd,rfl,hA,hO,hB,hU,hC,hP,k⟩:=h
 have h1:=hP.h1
 have h4:=hP.h4
 refine⟨_,(ak (b_ zA2 rfl (rC rfl T.bW (aa aj (aa (aM (cC K) (by rfl) T.bM zBh (aa (pv 2) ah)) ah))) (aE (i:=3) sR.nd rfl (by first | exact Or.inl rfl | exact Or.inr rfl)) (aB (fX (PW.pt (AH (jN (aq T._law_let cu (hr.mono (by first | decide | omega)) aL (aa (pv 0) (aa (ki (Oc K) (pv 2) pq (kh (pv 3))) ah)))) (xG (jN (aq T._law_let cu (hr.mono (by first | decide | omega)) aL (aa (pv 1) (aa (ki (Oc K) (pv 2) (kh (pv 3)) pq) ah))))))) (aB (aX lZ)) dw))) (aB (aX lZ))),?_⟩
 refine Cz (lo:=1) (n:=hh - 1) (au ao λH1 s1=>aC (bA (jK (K:=K) (aC (af (by rfl))) (s1.seq hC)) (by rw[y3,hP.len,show 1+(hh - 1)=hh by omega]))) (by omega)
  (λi σ H1=>∃e3:Option V,σ=[some (.ref a),some (.ref b),some (.ref c),e3]/\ai H H1/\∀j,1<=j->j < 1+i->¬ (Lt x.cps.toList (bh ts) j wd (aR p)/\Lt y.cps.toList (bh us) (hh - j) wd (λy x=>aR p (j+y) x)))
  (λH1 s1=>⟨none,rfl,s1,λj z1 z2=>absurd z2 (by omega)⟩) (λi σ H1 hi hQ=>?_) fun σ H1 hQ=>?_
 ·obtain⟨e3,rfl,s1,no⟩:=hQ
  dsimp only [bC]
  generalize hk:1+i=j at no
  have ek:(((1:Nat):Int)+(i:Int))=((j:Nat):Int):=by omega
  rw[ek]
  have VJ:gM (p.map V.str) none (some (j:Int))=(p.take j).map V.str:=by
   unfold gM
   rw[HT.uZ,HT.mP,y3,Nat.min_eq_left (by rw[hP.len]; omega),drop_zero,Nat.sub_zero,map_take]
  have VL:gM (p.map V.str) (some (j:Int)) none=(p.drop j).map V.str:=by
   unfold gM
   rw[HT.uZ,HT.mP,y3,Nat.min_eq_left (by rw[hP.len]; omega),←map_drop,zC0 (by rw[y3,zBx]; omega)]
  have g1:Lt x.cps.toList (bh ts) j wd (aR (p.take j))↔Lt x.cps.toList (bh ts) j wd (aR p):=t_ λy X hy _=>MO hy
  have g2:Lt y.cps.toList (bh us) (hh - j) wd (aR (p.drop j))↔Lt y.cps.toList (bh us) (hh - j) wd (λy x=>aR p (j+y) x):=t_ λy X _ _=>MP
  refine i8 (b:=ltB x ts j wd (aR (p.take j))&&ltB y us (hh - j) wd (aR (p.drop j))) (Bc (iH (ue (af (by rfl)) (hA.same s1) hO (λH2 s2=>Cy (ES (L_ (K:=K) (af (by rfl)) ((s1.trans s2).seq hC) λ_ _=>af (v:=.int ((j:Nat):Int)) (by rfl)) VJ)) (MM hP (by omega) (by omega)))) λ_ H2 s2=>iH (ue (af (by rfl)) (hB.same (s1.trans s2)) hU (λH3 s3=>Cy (ES (L3 (K:=K) (af (by rfl)) ((s1.trans (s2.trans s3)).seq hC) λ_ _=>af (v:=.int ((j:Nat):Int)) (by rfl)) VL)) (MN hP (by omega) (by omega)))) (λz H2 s2=>?_) λz H2 s2=>?_
  ·obtain⟨z1,z2⟩:=zBn.mp z
   exact dJ (ao (v:=.bl true)) λH3 s3=>k true H3 ⟨λ_=>⟨j,by omega,by omega,g1.mp (ltB_iff.mp z1),g2.mp (ltB_iff.mp z2)⟩,λ_=>rfl⟩ (s1.trans (s2.trans s3))
  ·refine⟨_,rfl,s1.trans s2,λm m1 m2 q=>?_⟩
   by_cases e:m < j
   ·exact no m m1 e q
   ·have:m=j:=by omega
    subst this
    rw[ltB_iff.mpr (g1.mpr q.1),ltB_iff.mpr (g2.mpr q.2)] at z
    cases z
 ·obtain⟨e3,rfl,s1,no⟩:=hQ
  exact dJ (ao (v:=.bl false)) λH2 s2=>k false H2 ⟨λz=>(by cases z),λ⟨m,m1,m2,q⟩=>absurd q (no m m1 (by omega))⟩ (s1.trans s2)
theorem iP:aQ ["_law_one","_law_other","_law_picture_here","_law_x","_law_left","_law_right"] ["_law_one","_law_other","_law_picture_here"] (aI gx):=⟨rfl,rfl,rfl,by decide +kernel,rfl,by decide +kernel,by decide +kernel⟩
theorem yz (T:Txt K mg t):bx P w K mg base cA 4 t.qJ t.jv ["_law_one","_law_other","_law_picture_here"] (yy K zI):=by
 have cu:=kZ (P:=P) (w:=w) (base:=base) T
 refine T._law_beside.fn.ok iP (λvs H Q E h=>?_) (λcdv A outer s H vs Q E hr h=>?_)
 ·obtain⟨a,b,c,x,y,ts,us,p,hh,wd,rfl,_⟩:=h
  rfl
 obtain⟨a,b,c,x,y,ts,us,p,hh,wd,rfl,hA,hO,hB,hU,hC,hP,k⟩:=h
 have h1:=hP.w1
 have h4:=hP.w4
 obtain⟨r0,rr,ep,er⟩:=hP.at_
 have hl3:=hP.len
 have Yd:=hP.h4
 refine⟨_,(ak (b_ zA2 rfl (rC rfl T.bW (aa aj (aa (aM (cC K) (by rfl) T.bM zBh (aa (aH (dF K) (pv 2) aj (λ_ _=>rfl)) ah)) ah))) (aE (i:=3) iP.nd rfl (by first | exact Or.inl rfl | exact Or.inr rfl)) (ak (fc (i:=4) iP.nd rfl (by first | exact Or.inl rfl | exact Or.inr rfl) (N':=["_law_row","_law_x"]) (ix:=[none,some 3]) (aK (by kernel_rfl)) rfl (bN K (pv 2)) (λ_ _ _ _=>(aE (i:=0) (show List.Nodup (["_law_row","_law_x"]:List Str) from by decide +kernel) rfl (by first | exact Or.inl rfl | exact Or.inr rfl))) (λ_ _ _ _=>bJ) (λ_ _ _ _=>(ki Gu (pv 0) pq (kh (pv 1))))) (ak (fc (i:=5) iP.nd rfl (by first | exact Or.inl rfl | exact Or.inr rfl) (N':=["_law_row","_law_x"]) (ix:=[none,some 3]) (aK (by kernel_rfl)) rfl (bN K (pv 2)) (λ_ _ _ _=>(aE (i:=0) (show List.Nodup (["_law_row","_law_x"]:List Str) from by decide +kernel) rfl (by first | exact Or.inl rfl | exact Or.inr rfl))) (λ_ _ _ _=>bJ) (λ_ _ _ _=>(ki Gu (pv 0) (kh (pv 1)) pq))) (aB (fX (PW.pt (AH (jN (aq T._law_let cu (hr.mono (by first | decide | omega)) aL (aa (pv 0) (aa (pv 4) ah)))) (xG (jN (aq T._law_let cu (hr.mono (by first | decide | omega)) aL (aa (pv 1) (aa (pv 5) ah))))))) (aB (aX lZ)) dw))))) (aB (aX lZ))),?_⟩
 refine Cz (lo:=1) (n:=wd - 1) (au ao λH1 s1=>aC (bA (bZ (K:=K) (aC (fh (K:=K) (af (by rfl)) (λ_ _=>ao) (s1.seq hC) (by rw[ep]; exact m_ _ _))) (small (by show r0.cps.size<=100000; omega))) (by show V.int (r0.cps.size:Int)=_; rw[er,show 1+(wd - 1)=wd by omega]))) (by omega)
  (λi σ H1=>∃e3 e4 e5:Option V,σ=[some (.ref a),some (.ref b),some (.ref c),e3,e4,e5]/\ai H H1/\∀j,1<=j->j < 1+i->¬ (Lt x.cps.toList (bh ts) hh j (aR p)/\Lt y.cps.toList (bh us) hh (wd - j) (λy x=>aR p y (j+x))))
  (λH1 s1=>⟨none,none,none,rfl,s1,λj z1 z2=>absurd z2 (by omega)⟩) (λi σ H1 hi hQ=>?_) fun σ H1 hQ=>?_
 ·obtain⟨e3,e4,e5,rfl,s1,no⟩:=hQ
  dsimp only [bC]
  generalize hk:1+i=j at no
  have ek:(((1:Nat):Int)+(i:Int))=((j:Nat):Int):=by omega
  rw[ek]
  have g1:Lt x.cps.toList (bh ts) hh j (aR (p.map λr=>bV r none (some (j:Int)) none))↔Lt x.cps.toList (bh ts) hh j (aR p):=t_ λy X hy hX=>JS hP (by omega) hy hX
  have g2:Lt y.cps.toList (bh us) hh (wd - j) (aR (p.map λr=>bV r (some (j:Int)) none none))↔Lt y.cps.toList (bh us) hh (wd - j) (λy x=>aR p y (j+x)):=t_ λy X hy _=>HW hP (by omega) hy
  have idx:∀f:Str->Str,(range (p.map V.str).length).map (λi=>V.str (f (p.getD i ⟨#[]⟩)))=(p.map f).map V.str:=λf=>by
   refine zCa (by simp) λi h1 h2=>?_
   have hi:i < p.length:=by simpa using h2
   simp [y4,hi]
  have Fz:∀{i:Nat} {v:V},(p.map V.str)[i]?=some v->∃r,v=.str r/\r.cps.size=wd/\p.getD i ⟨#[]⟩=r:=λ{i v} hv=>by
   rw[wP] at hv
   obtain⟨r,hr,rfl⟩:=zBf.mp hv
   exact⟨r,rfl,hP.bO r (zAj hr),by rw[y4,hr]; rfl⟩
  refine BW (K:=K) (af (by rfl)) (s1.seq hC) λH2 s2 hq2=>dG (λi=>.str (bV (p.getD i ⟨#[]⟩) none (some (j:Int)) none)) hq2 (small (by rw[y3]; omega)) (λi v H3 R hv s3 k3=>?_) λL H3 hL s3 Sw=>?_
  ·obtain⟨r,rfl,hrs,HX⟩:=Fz hv
   rw[HX] at k3
   exact dh (Jd (af (v:=.str r) (by rfl)) (small (by show r.cps.size<=100000; omega)) λ_ _=>af (v:=.int ((j:Nat):Int)) (by rfl)) λH4 s4=>k3 H4 s4
  rw[idx λr=>bV r none (some (j:Int)) none] at Sw
  have s13:=s1.trans (s2.trans s3)
  refine BW (K:=K) (af (by rfl)) (s13.seq hC) λH4 s4 uH=>dG (λi=>.str (bV (p.getD i ⟨#[]⟩) (some (j:Int)) none none)) uH (small (by rw[y3]; omega)) (λi v H5 R hv s5 k5=>?_) λM H5 hM s5 xo=>?_
  ·obtain⟨r,rfl,hrs,HX⟩:=Fz hv
   rw[HX] at k5
   exact dh (Jc (af (v:=.str r) (by rfl)) (small (by show r.cps.size<=100000; omega)) λ_ _=>af (v:=.int ((j:Nat):Int)) (by rfl)) λH6 s6=>k5 H6 s6
  rw[idx λr=>bV r (some (j:Int)) none none] at xo
  have s35:=s4.trans s5
  have s1:=s13.trans s35
  refine i8 (b:=ltB x ts hh j (aR (p.map λr=>bV r none (some (j:Int)) none))&&ltB y us hh (wd - j) (aR (p.map λr=>bV r (some (j:Int)) none none))) (Bc (iH (kL (af (by rfl)) (hA.same s1) hO (λ_ _=>af (by rfl)) (aD.of (s35 _ _ Sw)) (JR hP (by omega) (by omega)))) λ_ H6 s6=>iH (kL (af (by rfl)) (hB.same (s1.trans s6)) hU (λ_ _=>af (by rfl)) (aD.of (s6 _ _ xo)) (HV hP (by omega) (by omega)))) (λz H2 s2=>?_) λz H2 s2=>?_
  ·obtain⟨z1,z2⟩:=zBn.mp z
   exact dJ (ao (v:=.bl true)) λH3 s3=>k true H3 ⟨λ_=>⟨j,by omega,by omega,g1.mp (ltB_iff.mp z1),g2.mp (ltB_iff.mp z2)⟩,λ_=>rfl⟩ (s1.trans (s2.trans s3))
  ·refine⟨_,_,_,rfl,s1.trans s2,λm m1 m2 q=>?_⟩
   by_cases e:m < j
   ·exact no m m1 e q
   ·have:m=j:=by omega
    subst this
    rw[ltB_iff.mpr (g1.mpr q.1),ltB_iff.mpr (g2.mpr q.2)] at z
    cases z
 ·obtain⟨e3,e4,e5,rfl,s1,no⟩:=hQ
  exact dJ (ao (v:=.bl false)) λH2 s2=>k false H2 ⟨λz=>(by cases z),λ⟨m,m1,m2,q⟩=>absurd q (no m m1 (by omega))⟩ (s1.trans s2)
end
set_option maxHeartbeats 1000000
noncomputable def PA (H:Hp)(hg wd:Nat)(v:Addr):Prop:=∃q:List Str,H v=some (.lst (q.map V.str))/\dD q hg wd
theorem PA.same {H H':Hp}{hg wd:Nat}{v:Addr}(h:PA H hg wd v)(s:ai H H'):PA H' hg wd v:=let ⟨q,h1,h2⟩:=h; ⟨q,s _ _ h1,h2⟩
theorem PA.put {H:Hp}{hg wd:Nat}{v F:Addr}{rs:List Addr}{o:HO}(h:PA H hg wd v)(hF:H F=some (.lst (rs.map V.ref))):PA (upd H F o) hg wd v:=by
 obtain⟨q,h1,h2⟩:=h
 refine⟨q,?_,h2⟩
 rw[aT]
 ·exact h1
 ·rintro rfl
  rw[hF] at h1
  obtain⟨r0,rr,rfl,_⟩:=h2.at_
  have:=HO.lst.inj (zAh h1)
  cases rs with
  | nil=>cases this
  | cons a rs=>injection this with z _; cases z
theorem CB {rs:List Addr}{v:Addr}:rs.map V.ref++[V.ref v]=(rs++[v]).map V.ref:=by simp
section
variable {P:Program}{w:World}{K:zzA}{mg:Str->Option Value}{base:Heap}{t:Ad}
theorem MQ {ta:TE}{g:TG}{tb us:TS}{D:Ends}{σ:L2.St}{H:Hp}{xs:List V}(h:Gw K ta σ H xs)(Pv:Addr->Nat->L2.St->Hp->Prop)(h0:∀tp H',ai H H'->aJ K H' tp xs->Pv tp 0 σ H')(hl:∀tp i σ H,Pv tp i σ H->aJ K H tp xs)
  (hs:∀tp i x σ H,xs[i]?=some x->Pv tp i σ H->g x σ H fun σ2 H2=>tb { D with nx:=Pv tp (i+1),ct:=Pv tp (i+1),bk:=us D } σ2 H2) (hd:∀tp σ H,Pv tp xs.length σ H->us D σ H):iW (oX (Eu K ta) g tb) us D σ H:=
 h _ λtp H' s hq=>⟨tp,rfl,⟨xs,hq⟩,LK (D:={ D with nx:=us D }) (Pv tp) (h0 tp H' s hq) (λi σ H _ p=>hl tp i σ H p) (hs tp) (hd tp)⟩
noncomputable def HY (K:zzA):Sp:=λvs H Q _=>∃(sa a b:Addr) (ns:List Int) (k:Int) (x y:Str) (ts us:zzB),vs=[.ref sa,.int k,.ref a,.ref b]/\aD K H sa (ns.map V.int)/\ns.length<=63/\dO K H a x ts/\In x ts/\dO K H b y us/\In y us/\∀Z H' q hh wd,ai H H'->aD K H' Z (q.map V.str)->dD q hh wd->Q (.ref Z) H'
theorem cI:aQ ["_law_script","_law_k","_law_one","_law_other","_law_number","_law_parts","_law_system_here","_law_good","_law_j","_law_high","_law_picture_here"] ["_law_script","_law_k","_law_one","_law_other"] (aI gy):=⟨rfl,rfl,rfl,by decide +kernel,rfl,by decide +kernel,by decide +kernel⟩
theorem yC (T:Txt K mg t):bx P w K mg base cA 4 t.qK t.jw ["_law_script","_law_k","_law_one","_law_other"] (HY K):=by
 have cu:=kZ (P:=P) (w:=w) (base:=base) T
 have bT:=kX (P:=P) (w:=w) (base:=base) T
 have iQ:=oO (P:=P) (w:=w) (base:=base) T
 refine T._law_joined.fn.ok cI (λvs H Q E h=>?_) (λcdv A outer s H vs Q E hr h=>?_)
 ·obtain⟨sa,a,b,ns,k,x,y,ts,us,rfl,_⟩:=h
  rfl
 obtain⟨sa,a,b,ns,k,x,y,ts,us,rfl,hS,hl,hA,hM,hB,hN,kk⟩:=h
 refine⟨_,(ak (aN (i:=4) cI.nd rfl (by first | exact Or.inl rfl | exact Or.inr rfl) (aq T._law_mix bT (hr.mono (by first | decide | omega)) aL (aa (pv 0) (aa (pv 1) ah)))) (ak (aN (i:=5) cI.nd rfl (by first | exact Or.inl rfl | exact Or.inr rfl) (bQ ah)) (ak (b_ zA2 rfl (Aj K (bP (aa (pv 2) (aa (pv 3) ah)))) (aE (i:=6) cI.nd rfl (by first | exact Or.inl rfl | exact Or.inr rfl)) (ak (aN (i:=7) cI.nd rfl (by first | exact Or.inl rfl | exact Or.inr rfl) (bQ ah)) (ak (b_ zA2 rfl (bK rfl T.bW (aa aj ah)) (aE (i:=8) cI.nd rfl (by first | exact Or.inl rfl | exact Or.inr rfl)) (ak (aN (i:=9) cI.nd rfl (by first | exact Or.inl rfl | exact Or.inr rfl) (av aP aj (av cy (av gI (pv 4) aj) aj))) (ak (aN (i:=10) cI.nd rfl (by first | exact Or.inl rfl | exact Or.inr rfl) (aq T._law_picture iQ (hr.mono (by first | decide | omega)) aL (aa (pv 0) (aa (av aP (av aP (pv 1) aj) (av gk aj (pv 8))) (aa (pv 9) (aa (av aP aj (av cy (av gI (pv 4) aj) aj)) (aa (aH (bg K) (pv 6) aj (λ_ _=>rfl)) ah))))))) (aB (fX (jN (aq T._law_let cu (hr.mono (by first | decide | omega)) aL (aa (pv 6) (aa (pv 10) ah)))) (aB (bw (jT K zA6 zBi zBj cT (pv 7) (aa (pv 10) ah)))) dw))))) (aB (bw (jT K zA6 zBi zBj cT (pv 5) (aa (uV (wk K (pv 7) (λ_=>rfl)) (aH (dF K) (pv 7) aj (λ_ _=>rfl)) (aq T._law_picture iQ (hr.mono (by first | decide | omega)) aL (aa (pv 0) (aa (av aP (pv 1) aj) (aa (av aP aj (av cy (av gI (pv 4) aj) aj)) (aa (av aP aj (av cy (av gI (pv 4) aj) aj)) (aa k8 ah))))))) ah))))))) (ak (fX (cG jP (av cy (pv 4) aj) aj (cj _)) (aB (aX (bz (N':=["_law_y","_law_parts"]) (ix:=[none,some 5]) (aK (by kernel_rfl)) rfl (bK rfl T.bW (aa (aM (cC K) (by rfl) T.bM zBh (aa (aH (dF K) (pv 5) aj (λ_ _=>rfl)) ah)) ah)) (λ_ _ _ _=>(aE (i:=0) (show List.Nodup (["_law_y","_law_parts"]:List Str) from by decide +kernel) rfl (by first | exact Or.inl rfl | exact Or.inr rfl))) (λ_ _ _ _=>bJ) (λ_ _ _ _=>(av l_ (aH (dF K) (aH (dF K) (pv 1) aj (λ_ _=>rfl)) (pv 0) (λ_ _=>rfl)) (aH (dF K) (aH (dF K) (pv 1) aj (λ_ _=>rfl)) (pv 0) (λ_ _=>rfl))))))) dw) (aB (aX (av iZ (aH (dF K) (pv 5) aj (λ_ _=>rfl)) (aH (dF K) (pv 5) aj (λ_ _=>rfl))))))))),?_⟩
 have hm0:=pO ns k
 refine dM (gB hS hl (λ_ _ e=>e) (au (af (by rfl)) λ_ _=>aC (af (by rfl)))) λH1 s1=>?_
 generalize hz:mix ns k=z at *
 obtain⟨hg,Li,DI,VM⟩:∃n:Nat,1+z / 4 % 2=(n:Int)/\1<=n/\n<=2:=⟨(1+z / 4 % 2).toNat,by omega,by omega,by omega⟩
 obtain⟨wd,Lj,DJ,VN⟩:∃n:Nat,1+z / 8 % 2=(n:Int)/\1<=n/\n<=2:=⟨(1+z / 8 % 2).toNat,by omega,by omega,by omega⟩
 refine bf ⟨(by show 0<=sizeLine; decide),λPa hPa=>?_⟩
 have sP:ai H (upd H1 Pa (.lst [])):=s1.trans (ai.new hPa _)
 have TQ:H Pa=none:=s1.free hPa
 have lP:upd H1 Pa (.lst []) Pa=some (.lst (([]:List Addr).map V.ref)):=aA
 generalize upd H1 Pa (.lst [])=H2 at sP lP
 refine MQ (K:=K) (xs:=[.ref a,.ref b]) (dN (au (af (by rfl)) λ_ _=>aC (af (by rfl))) (by show 2<=sizeLine; decide))
  (λtp i σ H3=>∃(e6 e7 e8 e9 e10:Option V) (vs:List Addr),σ=[some (.ref sa),some (.int k),some (.ref a),some (.ref b),some (.int z),some (.ref Pa),e6,e7,e8,e9,e10]/\ai H H3/\aJ K H3 tp [.ref a,.ref b]/\H3 Pa=some (.lst (vs.map V.ref))/\vs.length=i/\∀v∈vs,PA H3 hg wd v)
  (λtp H3 s3 hq=>⟨none,none,none,none,none,[],rfl,sP.trans s3,hq,s3 _ _ lP,rfl,λv hv=>by cases hv⟩) (λtp i σ H3 hQ=>by obtain⟨_,_,_,_,_,_,_,_,hq,_⟩:=hQ; exact hq) (λtp i v σ H3 hv hQ=>?_) λtp σ H3 hQ=>?_
 ·obtain⟨e6,e7,e8,e9,e10,vs,rfl,s3,hq,CC,hvl,hvs⟩:=hQ
  obtain⟨sy,X,tX,rfl,hSy,hIn,hi2⟩:∃sy X tX,v=.ref sy/\dO K H sy X tX/\In X tX/\i < 2:=by
   match i,hv with
   | 0,hv=>cases hv; exact⟨a,x,ts,rfl,hA,hM,by omega⟩
   | 1,hv=>cases hv; exact⟨b,y,us,rfl,hB,hN,by omega⟩
  dsimp only [bC]
  refine bf ⟨(by show 0<=sizeLine; decide),λGa Lk=>?_⟩
  have TR:H Ga=none:=s3.free Lk
  have VO:Pa≠Ga:=λe=>by rw[←e,CC] at Lk; cases Lk
  have sG:=ai.new Lk (.lst [])
  have lG:upd H3 Ga (.lst []) Ga=some (.lst (([]:List Addr).map V.ref)):=aA
  have s4:=s3.trans sG
  have uH:=sG.tup hq
  have PZ:=sG _ _ CC
  have hvs4:∀v∈vs,PA _ hg wd v:=λv hv=>(hvs v hv).same sG
  generalize upd H3 Ga (.lst [])=H4 at lG s4 uH PZ hvs4
  have VP:=hIn.most
  have VQ:=hIn.pos
  have Ye:X.cps.size<=2:=VP
  have VR:1<=X.cps.size:=VQ
  obtain⟨TX,VS,_⟩:=id hSy
  have pic_:∀{Z:Addr} {pp:List Str} {H':Hp},H' Z=some (.lst (pp.map V.str))->pp.length=hg->(∀r∈pp,r.cps.size=wd)->PA H' hg wd Z:=λ{Z pp H'} h1 h2 h3=>⟨pp,h1,⟨h2,h3,DI,by omega,DJ,by omega⟩⟩
  refine iN (n:=6) (aC ao) (by omega)
   (λj σ H5=>∃(e8 e9 e10:Option V) (gs:List Addr),σ=[some (.ref sa),some (.int k),some (.ref a),some (.ref b),some (.int z),some (.ref Pa),some (.ref sy),some (.ref Ga),e8,e9,e10]/\ai H H5/\aJ K H5 tp [.ref a,.ref b]/\H5 Pa=some (.lst (vs.map V.ref))/\(∀v∈vs,PA H5 hg wd v)/\H5 Ga=some (.lst (gs.map V.ref))/\gs.length<=j/\∀v∈gs,PA H5 hg wd v)
   (λH5 s5=>⟨e8,e9,e10,[],rfl,s4.trans s5,s5.tup uH,s5 _ _ PZ,λv hv=>(hvs4 v hv).same s5,s5 _ _ lG,x3 _,λv hv=>by cases hv⟩) (λj σ H5 hj hQ=>?_) fun σ H5 hQ=>?_
  ·obtain⟨e8,e9,e10,gs,rfl,s5,zv,CD,hvs5,yD,VT,hgs⟩:=hQ
   dsimp only [bC]
   refine dM (bA (aS ao λ_ _=>aW (aW (af (v:=.int z) (by rfl)) (λ_ _=>ao) ⟨by decide,by decide⟩) (λ_ _=>ao) (by decide)) (zA3 V.int Li)) λH6 s6=>?_
   refine bf (bL (au (af (by rfl)) λ_ w1=>au (aS (aS (af (v:=.int k) (by rfl)) λ_ _=>ao) λ_ _=>aW ao (λ_ _=>af (v:=.int (j:Int)) (by rfl)) (.inl ⟨by decide,by decide⟩)) λ_ w2=>au (af (v:=.int (hg:Int)) (by rfl)) λHx w3=>au (bA (aS ao λ_ _=>aW (aW (af (v:=.int z) (by rfl)) (λ_ _=>ao) ⟨by decide,by decide⟩) (λ_ _=>ao) (by decide)) (zA3 V.int Lj)) λHy w4=>aC (aO (K:=K) (af (v:=.ref sy) (by rfl)) (λ_ _=>ao) ((s5.trans (s6.trans (w1.trans (w2.trans (w3.trans w4))))).tup VS) (aG (j:=0) rfl))) λH7 s7=>⟨sa,ns,_,hg,wd,X,rfl,(s5.trans (s6.trans s7)).seq hS,hl,VR,by omega,by omega,by omega,λZ pp H8 hZ s8 CF hpl hpr=>?_⟩)
   have hPA:=pic_ CF hpl λr hr=>(hpr r hr).1
   have s58:=s6.trans (s7.trans s8)
   have VU:dD pp hg wd:=⟨hpl,λr hr=>(hpr r hr).1,DI,by omega,DJ,by omega⟩
   refine i8 (iH (kL (af (by rfl)) (hSy.same (s5.trans s58)) hIn.ou (λ_ _=>af (by rfl)) (aD.of CF) VU)) (λc H9 s9=>?_) λc H9 s9=>?_
   ·have s59:=s58.trans s9
    refine WD.zA (K:=K) (af (v:=.ref Ga) (by rfl)) (s59 _ _ yD) (λ_ _=>af (v:=.ref Z) (by rfl)) (by rw[y3,zAk]; omega) λic s10=>?_
    have sa0:=s59.trans s10
    have FA:=sa0 _ _ yD
    refine⟨_,_,_,gs++[Z],rfl,(s5.trans sa0).put TR _,cP (sa0.tup zv) FA,by rw[aT VO]; exact sa0 _ _ CD,λv hv=>((hvs5 v hv).same sa0).put FA,by rw[aA,CB],by simp; omega,λv hv=>?_⟩
    rcases wT.mp hv with q | q
    ·exact ((hgs v q).same sa0).put FA
    ·rw[w8.mp q]
     exact (hPA.same (s9.trans s10)).put FA
   ·have s59:=s58.trans s9
    exact⟨_,_,_,gs,rfl,s5.trans s59,s59.tup zv,s59 _ _ CD,λv hv=>(hvs5 v hv).same s59,s59 _ _ yD,by omega,λv hv=>(hgs v hv).same s59⟩
  ·obtain⟨e8,e9,e10,gs,rfl,s5,zv,CD,hvs5,yD,VT,hgs⟩:=hQ
   refine jC ?_
   dsimp only [yV]
   refine (af (v:=.ref Pa) (by rfl)) _ λH6 s6=>⟨.inl ⟨rfl,_,aD.of (s6 _ _ CD)⟩,?_⟩
   have fin:∀(v:Addr) (H7:Hp),ai H5 H7->PA H7 hg wd v->∃l xs y',V.ref Pa=.ref l/\[V.ref v]=[y']/\H7 l=some (.lst xs)/\xs.length < sizeLine/\∃(e6 e7 VW VX TU:Option V) (vs:List Addr),[some (V.ref sa),some (.int k),some (.ref a),some (.ref b),some (.int z),some (.ref Pa),some (.ref sy),some (.ref Ga),e8,e9,e10]=[some (.ref sa),some (.int k),some (.ref a),some (.ref b),some (.int z),some (.ref Pa),e6,e7,VW,VX,TU]/\ai H (upd H7 l (.lst (xs++[y'])))/\aJ K (upd H7 l (.lst (xs++[y']))) tp [.ref a,.ref b]/\upd H7 l (.lst (xs++[y'])) Pa=some (.lst (vs.map V.ref))/\vs.length=i+1/\∀v∈vs,PA (upd H7 l (.lst (xs++[y']))) hg wd v:=λv H7 s7 hv=>by
    have Ll:=s7 _ _ CD
    refine⟨Pa,vs.map V.ref,.ref v,rfl,rfl,Ll,by rw[y3,zAk]; omega,_,_,_,_,_,vs++[v],rfl,(s5.trans s7).put TQ _,cP (s7.tup zv) Ll,by rw[aA,CB],by simp [hvl],λu hu=>?_⟩
    rcases wT.mp hu with q | q
    ·exact ((hvs5 u q).same s7).put Ll
    ·rw[w8.mp q]
     exact hv.put Ll
   refine iD ?_
   dsimp only [Nm]
   refine (su (K:=K) (af (v:=.ref Ga) (by rfl)) (aD.of (s6 _ _ yD))) _ λH7 s7=>?_
   cases gs with
   | nil=>
    rw[xL (by decide)]
    refine bL (au (af (by rfl)) λ_ _=>au (aS (af (v:=.int k) (by rfl)) λ_ _=>ao) λ_ _=>au (bA (aS ao λ_ _=>aW (aW (af (v:=.int z) (by rfl)) (λ_ _=>ao) ⟨by decide,by decide⟩) (λ_ _=>ao) (by decide)) (zA3 V.int Li)) λ_ _=>au (bA (aS ao λ_ _=>aW (aW (af (v:=.int z) (by rfl)) (λ_ _=>ao) ⟨by decide,by decide⟩) (λ_ _=>ao) (by decide)) (zA3 V.int Lj)) λ_ _=>aC ao) λH8 s8=>⟨sa,ns,_,hg,wd,"ab",rfl,(s5.trans (s6.trans (s7.trans s8))).seq hS,hl,by decide,by decide,by omega,by omega,λZ pp H9 hZ s9 CF hpl hpr=>?_⟩
    exact fin Z H9 (s6.trans (s7.trans (s8.trans s9))) (pic_ CF hpl λr hr=>(hpr r hr).1)
   | cons g0 gs=>
    rw[x4 (by rfl)]
    refine (fh (K:=K) (v:=.ref g0) (af (v:=.ref Ga) (by rfl)) (λ_ _=>ao) (aD.of ((s6.trans s7) _ _ yD)) (m_ _ _)) _ λH8 s8=>?_
    exact fin g0 H8 (s6.trans (s7.trans s8)) ((hgs g0 zAs).same (s6.trans (s7.trans s8)))
 ·obtain⟨e6,e7,e8,e9,e10,vs,rfl,s3,hq,CC,hvl,hvs⟩:=hQ
  match vs,hvl with
  | [v0,v1],_=>
   obtain⟨p0,hp0,P0⟩:=hvs v0 (by simp)
   obtain⟨p1,hp1,P1⟩:=hvs v1 (by simp)
   have ix:∀{σ:L2.St} {H':Hp} {n:Nat},ai H3 H'->σ[n]?=some (some (.ref Pa))->Gv (di (oY K) (fB n) (tC (.int 0))) σ H' (.ref v0)/\Gv (di (oY K) (fB n) (tC (.int 1))) σ H' (.ref v1):=λs e=>⟨fh (K:=K) (af e) (λ_ _=>ao) (aD.of (s _ _ CC)) (m_ _ _),fh (K:=K) (af e) (λ_ _=>ao) (aD.of (s _ _ CC)) (aG (j:=1) rfl)⟩
   have l0:=P0.len
   have l1:=P1.len
   refine wg (b:=decide (z % 2=0)) (gT (dZ (i7 (aW (af (v:=.int z) (by rfl)) (λ_ _=>ao) (by decide)) (λ_ _=>ao) (by rfl))) (by simp)) (λc H4 s4=>?_) λc H4 s4=>?_
   ·refine b9 (pF (jj:=(hg:Int)) (aC (bA (jK (K:=K) (aC (ix s4 (by rfl)).1) (aD.of (s4 _ _ hp0))) (by rw[y3,l0]))) (by omega) (by omega) λH5 s5=>?_)
    rw[zAg]
    refine cH (λi=>.str (p0.getD i ⟨#[]⟩++p1.getD i ⟨#[]⟩)) (small (by omega)) (λi H6 R hi s6 k6=>?_) λD H6 hD s6 aV=>?_
    ·have s46:=s4.trans (s5.trans s6)
     have r0:=P0.row hi
     have r1:=P1.row hi
     have a0:∀{q:List Str},q.length=hg->iR (q.map V.str) ((i:Nat):Int)=some (.str (q.getD i ⟨#[]⟩)):=λ{q} hq=>aG (by rw[wP,y4,xI (by omega)]; rfl)
     rw[zero_add]
     exact dh (tP (fh (K:=K) (ix s46 (by rfl)).1 (λ_ _=>af (v:=.int (i:Int)) (by rfl)) (aD.of (s46 _ _ hp0)) (a0 l0)) (λH7 s7=>fh (K:=K) (ix (s46.trans s7) (by rfl)).2 (λ_ _=>af (v:=.int (i:Int)) (by rfl)) (aD.of ((s46.trans s7) _ _ hp1)) (a0 l1)) (small (by show (p0.getD i ⟨#[]⟩).cps.size+(p1.getD i ⟨#[]⟩).cps.size<=100000; omega))) λH7 s7=>k6 H7 s7
    ·refine kk D H6 ((range hg).map λi=>p0.getD i ⟨#[]⟩++p1.getD i ⟨#[]⟩) hg (wd+wd) (s3.trans (s4.trans (s5.trans s6))) (aD.of (by rw[aV,zAy]; rfl)) ⟨by simp,λr hr=>?_,DI,by omega,by omega,by omega⟩
     obtain⟨i,hi,rfl⟩:=x5.mp hr
     have hi:=zAq.mp hi
     have:=kH (p0.getD i ⟨#[]⟩) (p1.getD i ⟨#[]⟩)
     have r0:=P0.row hi
     have r1:=P1.row hi
     show (p0.getD i ⟨#[]⟩++p1.getD i ⟨#[]⟩).length=_
     rw[this]
     show (p0.getD i ⟨#[]⟩).cps.size+(p1.getD i ⟨#[]⟩).cps.size=_
     omega
   ·refine b9 ((ix s4 (by rfl)).1 _ λH5 s5=>(ix (s4.trans s5) (by rfl)).2 _ λH6 s6=>⟨v0,v1,_,_,rfl,rfl,(s4.trans (s5.trans s6)) _ _ hp0,(s4.trans (s5.trans s6)) _ _ hp1,by rw[y3,y3,zAk]; omega,λp hp=>?_⟩)
    have sp:=ai.new hp (.lst (p0.map V.str++p1.map V.str))
    refine kk p _ (p0++p1) (hg+hg) wd (s3.trans (s4.trans (s5.trans (s6.trans sp)))) (aD.of (by rw[aA,v4])) ⟨by rw[zAb]; omega,λr hr=>?_,by omega,by omega,DJ,by omega⟩
    rcases wT.mp hr with q | q
    ·exact P0.bO r q
    ·exact P1.bO r q
end
set_option maxHeartbeats 2000000
theorem in_of {x:Str}{ts:zzB}(h:Sys 2 x ts):In x ts:=by
 refine⟨h.pos,h.most,h.ab,h.ok,h.up,?_⟩
 have h1:=h.few
 have h2:=List.length_eq_countP_add_countP fT (l:=ts)
 have h3:=cR (l1:=ts.filter λa=>!fT a) (l2:=xW) (List.Pairwise.filter _ (qp h.up)) λy hy=>by
  have:=(zAl.mp hy).2
  unfold fT at this
  simpa using this
 rw[←List.countP_eq_length_filter] at h3
 have h4:xW.length<=12:=by decide
 have h5:ts.countP (λa=>!fT a)=ts.countP (λa=>decide ¬ fT a=true):=by congr 1; funext a; simp
 omega
noncomputable def j_ (p:Prop):Bool:=@decide p (Classical.propDecidable p)
theorem yE {p:Prop}:j_ p=true↔p:=by unfold j_; exact @decide_eq_true_iff _ (Classical.propDecidable _)
theorem MR {p:List Str}{hh wd:Nat}(hP:dD p hh wd):dD (p.map jB) hh wd:=hP.map hP.w1 hP.w4 λr hr=>by
 rw[size_of (x:=jB r) (l:=r.cps.toList.reverse) (by unfold jB; rfl),List.length_reverse,u8]
 exact hP.bO r hr
theorem MT {p:List Str}{hh wd:Nat}(hP:dD p hh wd){y X:Nat}(hy:y < hh)(hX:X < wd):aR (p.map jB) y X=aR p y (wd - 1 - X):=by
 have:=hP.row hy
 rw[yv (by rw[hP.len]; exact hy),kK (x:=jB (p.getD y ⟨#[]⟩)) (l:=(p.getD y ⟨#[]⟩).cps.toList.reverse) (by unfold jB; rfl)]
 unfold aR
 rw[kK rfl,y4,List.getElem?_reverse (by rw[u8]; omega),u8,this,y4,y4]
theorem MU {p:List Str}{hh wd:Nat}(hP:dD p hh wd):dD (eG p wd) wd hh:=⟨nM,λr hr=>by
 unfold eG at hr
 obtain⟨X,_,rfl⟩:=x5.mp hr
 rw[zH,hP.len],hP.w1,hP.w4,hP.h1,hP.h4⟩
theorem MV {p:List Str}{hh wd:Nat}(hP:dD p hh wd){y X:Nat}(hy:y < wd)(hX:X < hh):aR (eG p wd) y X=aR p X y:=by
 have:(eG p wd).getD y ⟨#[]⟩=nL p y:=by unfold eG; simp [y4,hy]
 have e:=D_ (p:=p) (X:=y) (i:=X) (by rw[hP.len]; exact hX)
 rw[←e,←this]
 rfl
section
variable {P:Program}{w:World}{K:zzA}{mg:Str->Option Value}{base:Heap}{t:Ad}
theorem yF:∀(H:Hp) (bs:List Bool),aF K H (bs.map Dt.bl) (bs.map V.bl)
 | H,[]=>by show aF K H [] []; unfold aF; rfl
 | H,b::bs=>by
  show aF K H (Dt.bl b::_) (V.bl b::_)
  unfold aF
  exact⟨_,_,rfl,by unfold Rep; rfl,yF H bs⟩
theorem HZ:∀bs:List Bool,eqvAll (Dt.d9 (bs.map Dt.bl)) (Dt.d9 (bs.map Dt.bl))=true/\canLayAll0 (Dt.d9 (bs.map Dt.bl))=true/\depthAll (Dt.d9 (bs.map Dt.bl))=0
 | []=>⟨rfl,rfl,rfl⟩
 | b::bs=>by
  obtain⟨h1,h2,h3⟩:=HZ bs
  show (eqv (Dt.bl b).py (Dt.bl b).py&&_)=true/\((Dt.bl b).py.canLay0&&_)=true/\max (Dt.bl b).py.depth _=0
  rw[h1,h2,h3]
  cases b <;> exact⟨rfl,rfl,rfl⟩
theorem Ec {F:Str->zzB->Str->zzB->Nat->Nat->(Nat->Nat->Nat)->Prop}{σ:L2.St}{H:Hp}{tt:TA}{E:XK}{a b c:Addr}{x y:Str}{ts us:zzB}{p:List Str}{hh wd:Nat}(hg:Ga tt σ H [.ref a,.ref b,.ref c])(hA:dO K H a x ts)(hO:Ou x ts)(hB:dO K H b y us)(hU:Ou y us)(hC:aD K H c (p.map V.str))(hP:dD p hh wd):Gv (gS (yy K F) [] E tt) σ H (.bl (j_ (F x ts y us hh wd (aR p)))):=λR r=>bL hg λH1 s1=>⟨a,b,c,x,y,ts,us,p,hh,wd,rfl,hA.same s1,hO,hB.same s1,hU,s1.seq hC,hP,λr' H2 e s2=>by
 have:r'=j_ (F x ts y us hh wd (aR p)):=by rw[zCe,yE]; exact e
 rw[this]
 exact r H2 (s1.trans s2)⟩
theorem MW {σ:L2.St}{H:Hp}{ta te:TE}{ix:List (Option Nat)}{i₀:Nat}{c:Addr}{p:List Str}{hh wd:Nat}(f:Str->Str)(h:Gv ta σ H (.ref c))(hC:aD K H c (p.map V.str))(hP:dD p hh wd)(hs:∀(r:Str) (H':Hp),r.cps.size=wd->ai H H'->Gv te ((cN ix σ).set i₀ (some (.str r))) H' (.str (f r))):Gn (jR (jO K ta) ix (bC i₀) kq te) σ H ((p.map f).map V.str):=λR r=>by
 have h4:=hP.h4
 refine jS (K:=K) h hC λH1 s1 hq1=>dG (λi=>.str (f (p.getD i ⟨#[]⟩))) hq1 (small (by rw[y3,hP.len]; omega)) (λi v H2 R2 hv s2 k2=>?_) λD H2 hD s2 aV=>r D H2 (s1.free hD) (s1.trans s2) ?_
 ·rw[wP] at hv
  obtain⟨q,hq,rfl⟩:=zBf.mp hv
  have e:p.getD i ⟨#[]⟩=q:=by rw[y4,hq]; rfl
  rw[e] at k2
  exact dh (hs q H2 (hP.bO q (zAj hq)) (s1.trans s2)) λH3 s3=>k2 H3 s3
 ·rw[aV]
  have:(range (p.map V.str).length).map (λi=>V.str (f (p.getD i ⟨#[]⟩)))=(p.map f).map V.str:=by
   refine zCa (by simp) λi h1 h2=>?_
   have hi:i < p.length:=by simpa using h2
   simp [y4,hi]
  rw[this]
end
set_option maxHeartbeats 2000000
section
variable {P:Program}{w:World}{K:zzA}{mg:Str->Option Value}{base:Heap}{t:Ad}
theorem Ed {H:Hp}{Z F:Addr}{xs ys:List V}{o:HO}(h:aD K H Z xs)(hF:H F=some (.lst ys))(hne:xs≠ys):aD K (upd H F o) Z xs:=by
 rcases h with (h | ⟨u,h⟩) | h
 ·exact .inl (.inl (by rw[aT (λz=>by subst z; rw[h] at hF; cases hF; exact hne rfl)]; exact h))
 ·exact .inl (.inr ⟨u,by rw[aT (λz=>by subst z; rw[h] at hF; cases hF)]; exact h⟩)
 ·exact .inr h
noncomputable def xy (K:zzA):Sp:=λvs H Q _=>∃(a:Addr) (ns:List Int),vs=[.ref a]/\aD K H a (ns.map V.int)/\ns.length<=63/\∀H',Q (.bl true) H'
theorem eK:aQ ["_law_script","_law_one","_law_other","_law_made","_law_system_here","_law_k","_law_high","_law_wide","_law_picture_here","_law_first","_law_second","_law_due","_law_across"] ["_law_script"] (aI mC):=⟨rfl,rfl,rfl,by decide +kernel,rfl,by decide +kernel,by decide +kernel⟩
theorem P4 (T:Txt K mg t):bx P w K mg base cA 6 t.wJ t.qh ["_law_script"] (xy K):=by
 have JT:=Hv (P:=P) (w:=w) (base:=base) T
 have H_:=Fv (P:=P) (w:=w) (base:=base) T
 have CW:=Cd (P:=P) (w:=w) (base:=base) T
 have Ia:=Fo (P:=P) (w:=w) (base:=base) T
 have Ae:=ym (P:=P) (w:=w) (base:=base) T
 have yG:=w_ (P:=P) (w:=w) (base:=base) T
 have cU:=iO (P:=P) (w:=w) (base:=base) T
 have qN:=xX (P:=P) (w:=w) (base:=base) T
 have bT:=kX (P:=P) (w:=w) (base:=base) T
 have iQ:=oO (P:=P) (w:=w) (base:=base) T
 have cu:=kZ (P:=P) (w:=w) (base:=base) T
 have Af:=yz (P:=P) (w:=w) (base:=base) T
 have CY:=CA (P:=P) (w:=w) (base:=base) T
 have Ag:=yC (P:=P) (w:=w) (base:=base) T
 refine T.law.fn.ok eK (λvs H Q E h=>?_) (λcdv A outer s H vs Q E hr h=>?_)
 ·obtain⟨a,ns,rfl,_⟩:=h
  rfl
 obtain⟨sa,ns,rfl,hS,hl,kk⟩:=h
 refine⟨_,(ak (aN (i:=1) eK.nd rfl (by first | exact Or.inl rfl | exact Or.inr rfl) (aq T._law_system qN (hr.mono (by first | decide | omega)) aL (aa (pv 0) (aa aj (aa aj ah))))) (ak (aN (i:=2) eK.nd rfl (by first | exact Or.inl rfl | exact Or.inr rfl) (aq T._law_system qN (hr.mono (by first | decide | omega)) aL (aa (pv 0) (aa aj (aa aj ah))))) (ak (aN (i:=3) eK.nd rfl (by first | exact Or.inl rfl | exact Or.inr rfl) (bQ (aa (aq T.either JT (hr.mono (by first | decide | omega)) aL (aa (pv 1) (aa (pv 2) ah))) (aa (aq T.DB H_ (hr.mono (by first | decide | omega)) aL (aa (pv 1) (aa (pv 2) ah))) (aa (aq T.oB CW (hr.mono (by first | decide | omega)) aL (aa (pv 1) (aa (pv 2) ah))) (aa (aq T.over_of Ia (hr.mono (by first | decide | omega)) aL (aa (pv 1) (aa (pv 2) ah))) ah)))))) (ak (aN (i:=3) eK.nd rfl (by first | exact Or.inl rfl | exact Or.inr rfl) (av iZ (pv 3) (bQ (aa (aq T.uF Ae (hr.mono (by first | decide | omega)) aL (aa (pv 1) ah)) (aa (aq T.rZ yG (hr.mono (by first | decide | omega)) aL (aa (pv 1) ah)) ah))))) (ak (b_ zA2 rfl (bN K (pv 3)) (aE (i:=4) eK.nd rfl (by first | exact Or.inl rfl | exact Or.inr rfl)) (aB (bw (aq T.gJ cU (hr.mono (by first | decide | omega)) aL (aa (pv 4) ah))))) (ak (b_ zA2 rfl (bK rfl T.bW (aa aj ah)) (aE (i:=5) eK.nd rfl (by first | exact Or.inl rfl | exact Or.inr rfl)) (ak (aN (i:=6) eK.nd rfl (by first | exact Or.inl rfl | exact Or.inr rfl) (av aP aj (av cy (aq T._law_mix bT (hr.mono (by first | decide | omega)) aL (aa (pv 0) (aa (av aP aj (pv 5)) ah))) aj))) (ak (aN (i:=7) eK.nd rfl (by first | exact Or.inl rfl | exact Or.inr rfl) (av aP aj (av cy (aq T._law_mix bT (hr.mono (by first | decide | omega)) aL (aa (pv 0) (aa (av aP aj (pv 5)) ah))) aj))) (ak (aN (i:=8) eK.nd rfl (by first | exact Or.inl rfl | exact Or.inr rfl) (aq T._law_picture iQ (hr.mono (by first | decide | omega)) aL (aa (pv 0) (aa (av aP aj (av gk aj (pv 5))) (aa (pv 6) (aa (pv 7) (aa k8 ah))))))) (ak (fX (cG Ey (pv 5) aj (cj _)) (aB (aN (i:=8) eK.nd rfl (by first | exact Or.inl rfl | exact Or.inr rfl) (aq T._law_joined Ag (hr.mono (by first | decide | omega)) aL (aa (pv 0) (aa (av aP aj (av gk aj (pv 5))) (aa (pv 1) (aa (pv 2) ah))))))) dw) (ak (aN (i:=9) eK.nd rfl (by first | exact Or.inl rfl | exact Or.inr rfl) (aq T._law_let cu (hr.mono (by first | decide | omega)) aL (aa (pv 1) (aa (pv 8) ah)))) (ak (aN (i:=10) eK.nd rfl (by first | exact Or.inl rfl | exact Or.inr rfl) (aq T._law_let cu (hr.mono (by first | decide | omega)) aL (aa (pv 2) (aa (pv 8) ah)))) (ak (aN (i:=11) eK.nd rfl (by first | exact Or.inl rfl | exact Or.inr rfl) (bQ (aa (QE (pv 9) (rq (pv 10))) (aa (AJ (pv 9) (rq (pv 10))) (aa (aq T._law_beside Af (hr.mono (by first | decide | omega)) aL (aa (pv 1) (aa (pv 2) (aa (pv 8) ah)))) (aa (aq T._law_over CY (hr.mono (by first | decide | omega)) aL (aa (pv 1) (aa (pv 2) (aa (pv 8) ah)))) ah)))))) (ak (bw (jT K zA6 zBi zBj cT (pv 11) (aa (aq T._law_let cu (hr.mono (by first | decide | omega)) aL (aa (pv 1) (aa (bz (N':=["_law_row"]) (ix:=[none]) (aK (by kernel_rfl)) rfl (bN K (pv 8)) (λ_ _ _ _=>(aE (i:=0) (show List.Nodup (["_law_row"]:List Str) from by decide +kernel) rfl (by first | exact Or.inl rfl | exact Or.inr rfl))) (λ_ _ _ _=>bJ) (λ_ _ _ _=>(Th K (pv 0)))) ah))) ah))) (ak (fc (i:=12) eK.nd rfl (by first | exact Or.inl rfl | exact Or.inr rfl) (N':=["_law_x","_law_picture_here"]) (ix:=[none,some 8]) (aK (by kernel_rfl)) rfl (bK rfl T.bW (aa (aM (cC K) (by rfl) T.bM zBh (aa (aH (dF K) (pv 8) aj (λ_ _=>rfl)) ah)) ah)) (λ_ _ _ _=>(aE (i:=0) (show List.Nodup (["_law_x","_law_picture_here"]:List Str) from by decide +kernel) rfl (by first | exact Or.inl rfl | exact Or.inr rfl))) (λ_ _ _ _=>bJ) (λ_ _ _ _=>(jT K zDq zDu zDv (wj K) k8 (aa (bz (N':=["_law_row","_law_x"]) (ix:=[none,some 0]) (aK (by kernel_rfl)) rfl (bN K (pv 1)) (λ_ _ _ _=>(aE (i:=0) (show List.Nodup (["_law_row","_law_x"]:List Str) from by decide +kernel) rfl (by first | exact Or.inl rfl | exact Or.inr rfl))) (λ_ _ _ _=>bJ) (λ_ _ _ _=>(aH lg (pv 0) (pv 1) (λ_ _=>rfl)))) ah)))) (ak (bw (jT K zA6 zBi zBj cT (pv 11) (aa (aq T._law_let cu (hr.mono (by first | decide | omega)) aL (aa (pv 1) (aa (pv 12) ah))) ah))) (aB (fX (cG (ET K hr.units) (bz (N':=["_law_system_here","_law_picture_here"]) (ix:=[none,some 8]) (aK (by kernel_rfl)) rfl (bN K (pv 3)) (λ_ _ _ _=>(aE (i:=0) (show List.Nodup (["_law_system_here","_law_picture_here"]:List Str) from by decide +kernel) rfl (by first | exact Or.inl rfl | exact Or.inr rfl))) (λ_ _ _ _=>bJ) (λ_ _ _ _=>(aq T._law_let cu (hr.mono (by first | decide | omega)) aL (aa (pv 0) (aa (pv 1) ah))))) (pv 11) (cj _)) (aB (aX lZ)) dw))))))))))))) (aB (aX lZ)))))))),?_⟩
 refine bf (bL (au (af (by rfl)) λ_ _=>au ao λ_ _=>aC ao) λH1 s1=>⟨sa,ns,0,2,rfl,s1.seq hS,hl,by omega,by omega,λa TA H2 x ts wa ha dR s2 e1 e2 ra sx=>?_⟩)
 obtain⟨qa,rfl,VY,VZ⟩:=nX ra
 have hA:dO K H2 a x ts:=⟨TA,aJ.of e1,qa,e2,VZ,VY⟩
 have hM:=in_of sx
 have s02:=s1.trans s2
 refine bf (bL (au (af (by rfl)) λ_ _=>au ao λ_ _=>aC ao) λH3 s3=>⟨sa,ns,110,2,rfl,(s02.trans s3).seq hS,hl,by omega,by omega,λb TB H4 y us wb hb oN s4 f1 f2 rb sy=>?_⟩)
 obtain⟨qb,rfl,V0,V1⟩:=nX rb
 have hB:dO K H4 b y us:=⟨TB,aJ.of f1,qb,f2,V1,V0⟩
 have hN:=in_of sy
 have hA:=hA.same (s3.trans s4)
 have hS:=(s02.trans (s3.trans s4)).seq hS
 clear s1 s2 s3 s4 s02 ra rb e1 e2 f1 f2
 have args:∀{σ:L2.St} {H':Hp},σ[1]?=some (some (.ref a))->σ[2]?=some (some (.ref b))->Ga (bE (fB 1) (bE (fB 2) cM)) σ H' [.ref a,.ref b]:=λh1 h2=>au (af h1) λ_ _=>aC (af h2)
 refine bf (iD (bL (args (by rfl) (by rfl)) λH5 s5=>⟨a,b,x,y,ts,us,rfl,hA.same s5,hM,hB.same s5,hN,λm0 H6 w0 _ s6 Ib V2 V3=>?_⟩))
 have r6:=s5.trans s6
 refine iD (bL (args (by rfl) (by rfl)) λH7 s7=>⟨a,b,x,y,ts,us,rfl,hA.same (r6.trans s7),hM,hB.same (r6.trans s7),hN,λm1 H8 z1 w1 _ s8 Ic V4 V5 V6=>?_⟩)
 have r8:=s7.trans s8
 refine iD (bL (args (by rfl) (by rfl)) λH9 s9=>⟨a,b,x,y,ts,us,rfl,hA.same (r6.trans (r8.trans s9)),hM,hB.same (r6.trans (r8.trans s9)),hN,λm2 ic w2 _ s10 Ie V7 V8=>?_⟩)
 have r10:=s9.trans s10
 refine iD (bL (args (by rfl) (by rfl)) λA8 pD=>⟨a,b,x,y,ts,us,rfl,hA.same (r6.trans (r8.trans (r10.trans pD))),hM,hB.same (r6.trans (r8.trans (r10.trans pD))),hN,λm3 P5 w3 _ s12 Ig V9 V_=>?_⟩)
 have r12:=pD.trans s12
 refine⟨(by show 4<=sizeLine; decide),λL hL=>?_⟩
 have rL:=ai.new hL (.lst [.ref m0,.ref m1,.ref m2,.ref m3])
 have lL:upd P5 L (.lst [.ref m0,.ref m1,.ref m2,.ref m3]) L=some (.lst [.ref m0,.ref m1,.ref m2,.ref m3]):=aA
 have Ib:=Ib.same (r8.trans (r10.trans (r12.trans rL)))
 have Ic:=Ic.same (r10.trans (r12.trans rL))
 have Ie:=Ie.same (r12.trans rL)
 have Ig:=Ig.same rL
 have rA:=r6.trans (r8.trans (r10.trans (r12.trans rL)))
 generalize upd P5 L (.lst [.ref m0,.ref m1,.ref m2,.ref m3])=HL at lL Ib Ic Ie Ig rA
 have hA:=hA.same rA
 have hB:=hB.same rA
 have hS:=rA.seq hS
 clear r6 r8 r10 r12 rL s5 s6 s7 s8 s9 s10 pD s12
 have arg1:∀{σ:L2.St} {H':Hp},σ[1]?=some (some (.ref a))->Ga (bE (fB 1) cM) σ H' [.ref a]:=λh1=>aC (af h1)
 refine bf ((af (v:=.ref L) (by rfl)) _ λH5 s5=>iD (bL (arg1 (by rfl)) λH6 s6=>⟨a,x,ts,rfl,hA.same (s5.trans s6),hM,λm4 H7 w4 _ s7 Sx Wa Wb=>?_⟩))
 refine iD (bL (arg1 (by rfl)) λH8 s8=>⟨a,x,ts,rfl,hA.same (s5.trans (s6.trans (s7.trans s8))),hM,λm5 H9 w5 _ s9 Sy Wc We=>?_⟩)
 refine⟨(by show 2<=sizeLine; decide),λR2 Wf=>?_⟩
 have s10:=ai.new Wf (.lst [.ref m4,.ref m5])
 have r9:=s5.trans (s6.trans (s7.trans (s8.trans s9)))
 refine⟨L,R2,[.ref m0,.ref m1,.ref m2,.ref m3],[.ref m4,.ref m5],rfl,rfl,(r9.trans s10) _ _ lL,aA,(by show 4+2<=sizeLine; decide),λM Lf=>?_⟩
 have pD:=ai.new Lf (.lst ([.ref m0,.ref m1,.ref m2,.ref m3]++[.ref m4,.ref m5]))
 have rM:=r9.trans (s10.trans pD)
 obtain⟨MS,Ih⟩:∃MS:List (Addr × Str × zzB),MS=[(m0,x++y,w0),(m1,z1,w1),(m2,x++y,w2),(m3,x++y,w3),(m4,x,w4),(m5,x,w5)]:=⟨_,rfl⟩
 have xo:upd (upd H9 R2 (.lst [.ref m4,.ref m5])) M (.lst ([.ref m0,.ref m1,.ref m2,.ref m3]++[.ref m4,.ref m5])) M=some (.lst (MS.map λq=>V.ref q.1)):=by rw[aA,Ih]; rfl
 have Wg:=s8.trans (s9.trans (s10.trans pD))
 have hall:∀q∈MS,dO K _ q.1 q.2.1 q.2.2/\Ou q.2.1 q.2.2:=λq hq=>by
  rw[Ih] at hq
  simp only [wS,zBr,zBz] at hq
  rcases hq with rfl | rfl | rfl | rfl | rfl | rfl
  ·exact⟨Ib.same rM,V2⟩
  ·exact⟨Ic.same rM,V4⟩
  ·exact⟨Ie.same rM,V7⟩
  ·exact⟨Ig.same rM,V9⟩
  ·exact⟨Sx.same Wg,Wa⟩
  ·exact⟨Sy.same (s10.trans pD),Wc⟩
 have hA:=hA.same rM
 have hB:=hB.same rM
 have hS:=rM.seq hS
 generalize upd (upd H9 R2 (.lst [.ref m4,.ref m5])) M (.lst ([.ref m0,.ref m1,.ref m2,.ref m3]++[.ref m4,.ref m5]))=HM at xo hall hA hB hS
 have due:∀(p:List Str) (hh wd:Nat),dD p hh wd->MS.map (λq=>ltB q.2.1 q.2.2 hh wd (aR p))=[ltB x ts hh wd (aR p)||ltB y us hh wd (aR p),ltB x ts hh wd (aR p)&&ltB y us hh wd (aR p),j_ (zI x ts y us hh wd (aR p)),j_ (zJ x ts y us hh wd (aR p)),ltB x ts hh wd (aR (p.map jB)),ltB x ts wd hh (aR (eG p wd))]:=λp hh wd hP=>by
  rw[Ih]
  simp only [zAo,map_nil]
  have e:∀{b c:Bool},(b=true↔c=true)->b=c:=λh=>zCe.mpr h
  rw[e (ltB_iff.trans ((HS hM hN V3 hP.h1 hP.w1).trans ((or_congr ltB_iff.symm ltB_iff.symm).trans Bool.or_eq_true_iff.symm))),e (ltB_iff.trans ((ML hM hN V5 V6).trans ((and_congr ltB_iff.symm ltB_iff.symm).trans zBn.symm))),e (ltB_iff.trans ((HU hM hN V8 hP.h1 hP.w1).trans yE.symm)),e (ltB_iff.trans ((MK hM hN V_ hP.h1 hP.w1).trans yE.symm)),e (ltB_iff.trans ((PV hM Wb).trans ((t_ λy X hy hX=>(MT hP hy hX).symm).trans ltB_iff.symm))),e (ltB_iff.trans ((PX hM We).trans ((t_ λy X hy hX=>(MV hP hy hX).symm).trans ltB_iff.symm)))]
  rfl
 have P6:MS.length=6:=by rw[Ih]; rfl
 clear Ih
 clear Ib Ic Ie Ig Sx Sy
 have mget:∀{i:Nat} {v:V},(MS.map λq=>V.ref q.1)[i]?=some v->∃q∈MS,v=.ref q.1/\MS[i]?=some q:=λ{i v} hv=>by
  rw[wP] at hv
  obtain⟨q,hq,rfl⟩:=zBf.mp hv
  exact⟨q,zAj hq,rfl,hq⟩
 refine mT (K:=K) (xs:=MS.map λq=>V.ref q.1) (af (by rfl)) (aD.of xo)
  (λi σ H'=>∃e4:Option V,σ=[some (.ref sa),some (.ref a),some (.ref b),some (.ref M),e4,none,none,none,none,none,none,none,none]/\ai HM H')
  (λH' s'=>⟨none,rfl,s'⟩) (λi σ H' hQ=>by obtain⟨_,_,s'⟩:=hQ; exact aD.of (s' _ _ xo)) (λi v σ H' hv hQ=>?_) fun σ H' hQ=>?_
 ·obtain⟨e4,rfl,s'⟩:=hQ
  obtain⟨q,hq,rfl,_⟩:=mget hv
  dsimp only [bC]
  exact jC (bL (aC (af (v:=.ref q.1) (by rfl))) λH2 s2=>⟨q.1,q.2.1,q.2.2,rfl,(hall q hq).1.same (s'.trans s2),(hall q hq).2.sg,λH3 s3=>⟨_,rfl,s'.trans (s2.trans s3)⟩⟩)
 obtain⟨e4,rfl,s'⟩:=hQ
 refine iN (n:=4) (aC ao) (by omega)
  (λi σ H2=>∃e4 e5 e6 e7 e8 e9 e10 d7 Ii:Option V,σ=[some (.ref sa),some (.ref a),some (.ref b),some (.ref M),e4,e5,e6,e7,e8,e9,e10,d7,Ii]/\ai HM H2)
  (λH2 s2=>⟨_,_,_,_,_,_,_,_,_,rfl,s'.trans s2⟩) (λi σ H2 hi hQ=>?_) fun σ H2 hQ=>?_
 ·obtain⟨e4,e5,e6,e7,e8,e9,e10,d7,Ii,rfl,s2⟩:=hQ
  dsimp only [bC]
  have m1:=pO ns (220+(i:Int))
  have m2:=pO ns (230+(i:Int))
  obtain⟨hg,Li,DI,VM⟩:∃n:Nat,1+mix ns (220+(i:Int)) % 3=(n:Int)/\1<=n/\n<=3:=⟨(1+mix ns (220+(i:Int)) % 3).toNat,by omega,by omega,by omega⟩
  obtain⟨wd,Lj,DJ,VN⟩:∃n:Nat,1+mix ns (230+(i:Int)) % 3=(n:Int)/\1<=n/\n<=3:=⟨(1+mix ns (230+(i:Int)) % 3).toNat,by omega,by omega,by omega⟩
  refine dM (v:=.int (hg:Int)) (bA (aS ao λHx sx=>aW (gB hS hl (s2.trans sx) (au (af (by rfl)) λ_ _=>aC (aS ao λ_ _=>af (v:=.int (i:Int)) (by rfl)))) (λ_ _=>ao) (by decide)) (zA3 V.int Li)) λH3 s3=>?_
  refine dM (v:=.int (wd:Int)) (bA (aS ao λHx sx=>aW (gB hS hl (s2.trans (s3.trans sx)) (au (af (by rfl)) λ_ _=>aC (aS ao λ_ _=>af (v:=.int (i:Int)) (by rfl)))) (λ_ _=>ao) (by decide)) (zA3 V.int Lj)) λH4 s4=>?_
  have s24:=s2.trans (s3.trans s4)
  refine bf (bL (au (af (by rfl)) λ_ _=>au (aS ao λ_ _=>aW ao (λ_ _=>af (v:=.int (i:Int)) (by rfl)) (.inl ⟨by decide,by decide⟩)) λ_ _=>au (af (v:=.int (hg:Int)) (by rfl)) λ_ _=>au (af (v:=.int (wd:Int)) (by rfl)) λ_ _=>aC ao) λH5 s5=>⟨sa,ns,_,hg,wd,"ab",rfl,(s24.trans s5).seq hS,hl,by decide,by decide,by omega,by omega,λZ0 pp H6 _ s6 CF hpl hpr=>?_⟩)
  have s26:=s24.trans (s5.trans s6)
  refine Hh (fun σ H'=>∃(Z:Addr) (p:List Str) (hh wd:Nat) (f6 f7:Option V),σ=[some (.ref sa),some (.ref a),some (.ref b),some (.ref M),e4,some (.int (i:Int)),f6,f7,some (.ref Z),e9,e10,d7,Ii]/\ai HM H'/\aD K H' Z (p.map V.str)/\dD p hh wd)
   (dZ (aS (af (v:=.int (i:Int)) (by rfl)) λ_ _=>ao)) (λc H7 s7 nx Px=>?_) (λc H7 s7=>⟨Z0,pp,hg,wd,_,_,rfl,s26.trans s7,aD.of (s7 _ _ CF),⟨hpl,λr hr=>(hpr r hr).1,DI,by omega,DJ,by omega⟩⟩) fun σ H7 hQ=>?_
  ·exact xP (bL (au (af (by rfl)) λ_ _=>au (aS ao λ_ _=>aW ao (λ_ _=>af (v:=.int (i:Int)) (by rfl)) (.inl ⟨by decide,by decide⟩)) λ_ _=>au (af (by rfl)) λ_ _=>aC (af (by rfl))) λH8 s8=>⟨sa,a,b,ns,_,x,y,ts,us,rfl,(s26.trans (s7.trans s8)).seq hS,hl,hA.same (s26.trans (s7.trans s8)),hM,hB.same (s26.trans (s7.trans s8)),hN,λZ H9 q hh bU s9 hq hP=>Px _ _ ⟨Z,q,hh,bU,_,_,rfl,s26.trans (s7.trans (s8.trans s9)),hq,hP⟩⟩)
  obtain⟨Z,p,hh,bU,f6,f7,rfl,s7,hC,hP⟩:=hQ
  clear s2 s3 s4 s24 s5 s6 s26 CF hpr hpl
  have h4:=hP.h4
  have w4:=hP.w4
  refine dM (kL (af (by rfl)) (hA.same s7) hM.ou (λ_ _=>af (by rfl)) hC hP) λH8 s8=>?_
  refine dM (kL (af (by rfl)) (hB.same (s7.trans s8)) hN.ou (λ_ _=>af (by rfl)) (s8.seq hC) hP) λH9 s9=>?_
  have s79:=s8.trans s9
  have r9:=s7.trans s79
  have a3:∀{σ:L2.St} {H':Hp},σ[1]?=some (some (.ref a))->σ[2]?=some (some (.ref b))->σ[8]?=some (some (.ref Z))->Ga (bE (fB 1) (bE (fB 2) (bE (fB 8) cM))) σ H' [.ref a,.ref b,.ref Z]:=λh1 h2 h3=>au (af h1) λ_ _=>au (af h2) λ_ _=>aC (af h3)
  refine bf (ni (xs:=[.bl (ltB x ts hh bU (aR p)||ltB y us hh bU (aR p)),.bl (ltB x ts hh bU (aR p)&&ltB y us hh bU (aR p)),.bl (j_ (zI x ts y us hh bU (aR p))),.bl (j_ (zJ x ts y us hh bU (aR p)))]) (au (QK (af (by rfl)) λ_ _ _=>af (by rfl)) λHa sa'=>au (Be (af (by rfl)) λ_ _ _=>af (by rfl)) λHb sb=>au (Ec (a3 (by rfl) (by rfl) (by rfl)) (hA.same (r9.trans (sa'.trans sb))) hM.ou (hB.same (r9.trans (sa'.trans sb))) hN.ou ((s79.trans (sa'.trans sb)).seq hC) hP) λHc sc=>aC (Ec (a3 (by rfl) (by rfl) (by rfl)) (hA.same (r9.trans (sa'.trans (sb.trans sc)))) hM.ou (hB.same (r9.trans (sa'.trans (sb.trans sc)))) hN.ou ((s79.trans (sa'.trans (sb.trans sc))).seq hC) hP)) (by show 4<=sizeLine; decide) _ λDu ic Wh s10 aV=>?_)
  have P7:HM Du=none:=r9.free Wh
  have r10:=r9.trans s10
  have c10:=s79.trans s10
  obtain⟨r0,rr,ep,er⟩:=hP.at_
  refine WD.zB (K:=K) (af (v:=.ref Du) (by rfl)) aV (λH' s'=>ue (af (by rfl)) (hA.same (r10.trans s')) hM.ou (λYg s''=>Cy (MW jB (af (by rfl)) ((c10.trans (s'.trans s'')).seq hC) hP λr Hr hr sr R k'=>(af (v:=.str r) (by rfl)) _ λH1 s1=>.inl ⟨r,rfl,small (by show r.cps.size<=100000; omega),by rw[ER]; exact k' H1 s1⟩)) (MR hP)) (by show 4 < sizeLine; decide) λA8 pD=>?_
  have TV:=pD _ _ aV
  have Sz:=(r10.trans pD).put P7 (.lst ([.bl (ltB x ts hh bU (aR p)||ltB y us hh bU (aR p)),.bl (ltB x ts hh bU (aR p)&&ltB y us hh bU (aR p)),.bl (j_ (zI x ts y us hh bU (aR p))),.bl (j_ (zJ x ts y us hh bU (aR p)))]++[.bl (ltB x ts hh bU (aR (p.map jB)))]))
  have FD:aD K (upd A8 Du (.lst ([.bl (ltB x ts hh bU (aR p)||ltB y us hh bU (aR p)),.bl (ltB x ts hh bU (aR p)&&ltB y us hh bU (aR p)),.bl (j_ (zI x ts y us hh bU (aR p))),.bl (j_ (zJ x ts y us hh bU (aR p)))]++[.bl (ltB x ts hh bU (aR (p.map jB)))]))) Z (p.map V.str):=Ed ((c10.trans pD).seq hC) TV (by rw[ep]; intro z; cases z)
  have SA:upd A8 Du (.lst ([.bl (ltB x ts hh bU (aR p)||ltB y us hh bU (aR p)),.bl (ltB x ts hh bU (aR p)&&ltB y us hh bU (aR p)),.bl (j_ (zI x ts y us hh bU (aR p))),.bl (j_ (zJ x ts y us hh bU (aR p)))]++[.bl (ltB x ts hh bU (aR (p.map jB)))])) Du=some _:=aA
  generalize upd A8 Du _=P5 at Sz FD SA
  have Fz:∀{i:Nat} {v:V},(p.map V.str)[i]?=some v->∃r,v=.str r/\r.cps.size=bU/\p.getD i ⟨#[]⟩=r:=λ{i v} hv=>by
   rw[wP] at hv
   obtain⟨r,hr,rfl⟩:=zBf.mp hv
   exact⟨r,rfl,hP.bO r (zAj hr),by rw[y4,hr]; rfl⟩
  refine Bg (Gx (jj:=(bU:Int)) (aC (bA (bZ (K:=K) (aC (fh (K:=K) (af (by rfl)) (λ_ _=>ao) FD (by rw[ep]; exact m_ _ _))) (small (by show r0.cps.size<=100000; omega))) (by show V.int (r0.cps.size:Int)=_; rw[er]))) (by omega) (by omega) λYh s13=>?_)
  rw[zAg]
  refine cH (λX=>.str (nL p X)) (small (by omega)) (λX SD R hX s14 Wi=>?_) λAc SD Yi s14 P8=>?_
  ·refine⟨rfl,jS (K:=K) (af (by rfl)) ((s13.trans s14).seq FD) λP9 s15 TY=>?_⟩
   refine dG (λi=>.str (c9 ((p.getD i ⟨#[]⟩).cps.getD X 0))) TY (small (by rw[y3,hP.len]; omega)) (λi v P_ R2 hv s16 SE=>?_) λD P_ hD s16 Qa=>?_
   ·obtain⟨r,rfl,hrs,HX⟩:=Fz hv
    rw[HX] at SE
    exact dh (lu (af (v:=.str r) (by rfl)) (λ_ _=>af (v:=.int (0+(X:Int))) (by rfl)) (small (by show r.cps.size<=100000; omega)) (by rw[zero_add]; exact atS (by omega))) λQc s17=>SE Qc s17
   ·have hcol:(range (p.map V.str).length).map (λi=>V.str (c9 ((p.getD i ⟨#[]⟩).cps.getD X 0)))=((p.map λr=>r.cps.getD X 0).map c9).map V.str:=by
     refine zCa (by simp) λi h1 h2=>?_
     have hi:i < p.length:=by simpa using h2
     simp [y4,hi]
    rw[hcol] at Qa
    exact⟨"",D,_,rfl,rfl,aD.of Qa,by rw[kD,y3,y3,hP.len]; show hh+hh * 0<=16777216; omega,Wi P_ (s15.trans s16)⟩
  have P8:SD Ac=some (.lst ((eG p bU).map V.str)):=by rw[P8]; unfold eG; rw[zAy]; rfl
  have r14:=Sz.trans (s13.trans s14)
  have SG:=(s13.trans s14) _ _ SA
  refine WD.zB (K:=K) (af (v:=.ref Du) (by rfl)) SG (λH' s'=>kL (af (by rfl)) (hA.same (r14.trans s')) hM.ou (λ_ _=>af (v:=.ref Ac) (by rfl)) (aD.of (s' _ _ P8)) (MU hP)) (by show 5 < sizeLine; decide) λP9 s15=>?_
  obtain⟨bs,FP⟩:∃bs:List Bool,bs=[ltB x ts hh bU (aR p)||ltB y us hh bU (aR p),ltB x ts hh bU (aR p)&&ltB y us hh bU (aR p),j_ (zI x ts y us hh bU (aR p)),j_ (zJ x ts y us hh bU (aR p)),ltB x ts hh bU (aR (p.map jB)),ltB x ts bU hh (aR (eG p bU))]:=⟨_,rfl⟩
  have hd:=due p hh bU hP
  rw[←FP] at hd
  have TZ:=s15 _ _ SG
  have Qd:=Ed (o:=.lst (bs.map V.bl)) ((s13.trans (s14.trans s15)).seq FD) TZ (by rw[ep]; intro z; cases z)
  have r15:=(r14.trans s15).put P7 (.lst (bs.map V.bl))
  have SH:upd P9 Du (.lst (bs.map V.bl)) Du=some (.lst (bs.map V.bl)):=aA
  have eo:([.bl (ltB x ts hh bU (aR p)||ltB y us hh bU (aR p)),.bl (ltB x ts hh bU (aR p)&&ltB y us hh bU (aR p)),.bl (j_ (zI x ts y us hh bU (aR p))),.bl (j_ (zJ x ts y us hh bU (aR p)))]++[.bl (ltB x ts hh bU (aR (p.map jB)))])++[V.bl (ltB x ts bU hh (aR (eG p bU)))]=bs.map V.bl:=by rw[FP]; rfl
  rw[eo]
  generalize upd P9 Du (.lst (bs.map V.bl))=P_ at Qd r15 SH
  refine i8 (b:=false) (iH λR r=>jS (K:=K) (af (v:=.ref M) (by rfl)) (aD.of (r15 _ _ xo)) λQc s17 T3=>?_) (λc=>absurd c (by decide)) λc Qc s17=>⟨_,_,_,_,_,_,_,_,_,rfl,r15.trans s17⟩
  refine dG (λi=>.bl (bs.getD i false)) T3 (small (by rw[y3,P6]; omega)) (λi v Wj R2 hv s18 SJ=>?_) λD Wj hD s18 Qe=>?_
  ·obtain⟨q,hq,rfl,cD⟩:=mget hv
   have eb:bs.getD i false=ltB q.2.1 q.2.2 hh bU (aR p):=by rw[←hd,y4,wP,cD]; rfl
   rw[eb] at SJ
   have s168:=s17.trans s18
   exact dh (kL (af (v:=.ref q.1) (by rfl)) ((hall q hq).1.same (r15.trans s168)) (hall q hq).2 (λ_ _=>af (v:=.ref Z) (by rfl)) (s168.seq Qd) hP) λQf s19=>SJ Qf s19
  ·have Wk:bs.length=6:=by rw[FP]; rfl
   have eD:(range (MS.map λq=>V.ref q.1).length).map (λi=>V.bl (bs.getD i false))=bs.map V.bl:=by
    refine zCa (by simp [P6,Wk]) λi h1 h2=>?_
    have hi:i < bs.length:=by simpa using h2
    simp [y4,hi]
   rw[eD] at Qe
   obtain⟨v1,v2,v3⟩:=HZ bs
   refine (af (v:=.ref Du) (by rfl)) _ λQf s19=>⟨.lst (bs.map Dt.bl),.lst (bs.map Dt.bl),⟨v2,v2,?_⟩,by unfold Rep; exact⟨D,_,rfl,aD.of (s19 _ _ Qe),yF _ bs⟩,by unfold Rep; exact⟨Du,_,rfl,aD.of ((s17.trans (s18.trans s19)) _ _ SH),yF _ bs⟩,?_⟩
   ·show min (depthAll (Dt.d9 (bs.map Dt.bl))+1) _<=60
    rw[v3]
    omega
   ·have:eqv (Dt.lst (bs.map Dt.bl)).py (Dt.lst (bs.map Dt.bl)).py=true:=v1
    rw[this]
    exact r Qf (s17.trans (s18.trans s19))
 ·exact dJ (ao (v:=.bl true)) λH3 s3=>kk H3
end
end jL
namespace L2
open PySem PySem.W
noncomputable def FE (S:SharedT->Thread->Option (SharedT × Thread))(m:Nat)(z:Option Value):Nat->SharedT->Thread->Option SharedT
 | 0,_,_=>none
 | k+1,x,y=>match through y with
  | true=>some x
  | false=>match stepOk m z y with
   | false=>none
   | true=>match S x y with
    | some r=>FE S m z k r.1 r.2
    | none=>none
theorem Ef {tb:String->Option Builtin}{p:Program}{w:World}{m:Nat}{z:Option Value}{S:SharedT->Thread->Option (SharedT × Thread)}(hS:S=stepT (denote tb) p w) :
  ∀{k:Nat} {x x':SharedT} {y:Thread},FE S m z k x y=some x'->topRun tb p w m z k x.abs y=some x'.abs
 | 0,_,_,_,h=>nomatch h
 | k+1,x,x',y,h=>by
  unfold FE at h
  unfold topRun
  cases a:through y with
  | true=>rw[a] at h; exact zA3 _ (zA3 _ (zAh h))
  | false=>
   rw[a] at h
   cases b:stepOk m z y with
   | false=>rw[b] at h; exact nomatch h
   | true=>
    rw[b] at h
    cases c:S x y with
    | none=>rw[c] at h; exact nomatch h
    | some r=>obtain⟨u,v⟩:=r; rw[c] at h; rw[hS] at c; rw[stepT_spec c]; exact Ef hS h
noncomputable def Ij:List Obj->BT->Nat->Option (BT × Nat)
 | [],T,n=>some (T,n)
 | o::l,T,n=>match ((T.ins n o).get n).isSome with
  | true=>Ij l (T.ins n o) (n+1)
  | false=>none
theorem Eg {life:Life}:∀{l:List Obj} {T:BT} {n:Nat} {r:BT × Nat},Ij l T n=some r->absHeap r.1 r.2 life=⟨((absHeap T n life).objs.toList++l).toArray,life⟩
 | [],T,n,r,h=>by
  cases h
  rw[zBc]
  rfl
 | o::l,T,n,r,h=>by
  unfold Ij at h
  cases g:((T.ins n o).get n).isSome with
  | false=>rw[g] at h; cases h
  | true=>
   rw[g] at h
   rw[Eg h,absHeap_ins g]
   show _=_
   have:((absHeap T n life).push o).objs.toList=(absHeap T n life).objs.toList++[o]:=zDi
   rw[this,zA4]
   rfl
noncomputable def FF (S:SharedT->Thread->Option (SharedT × Thread))(p:Program)(N:Nat)(s:Shared):Option Shared:=
 match s.heap.isNs mainGlobals&&s.gens.size == 0 with
 | true=>match Ij s.heap.objs.toList .nil 0 with
  | none=>none
  | some r=>match FE S s.heap.objs.size (s.heap.nsMap mainGlobals "__annotations__") N ⟨r.1,r.2,s.heap.life,s.gens,s.drawn,s.toks,s.os⟩ (topStub p) with
   | none=>none
   | some s₁=>match staticsOk (importedModules p.main.body) s.heap s₁.abs.heap&&namesBound p s₁.abs.heap&&gensDone s₁.abs&&laidKept s.heap s₁.abs.heap with
    | true=>some s₁.abs
    | false=>none
 | false=>none
theorem JU {p:Program}{w:World}{N:Nat}{s₀ s:Shared}{S:SharedT->Thread->Option (SharedT × Thread)}(hS:S=stepT (denote treeTable) p w)(h:FF S p N s₀=some s):topFrom treeTable p w N s₀=some s:=by
 obtain⟨⟨⟨l⟩,life⟩,gs,d,k,os⟩:=s₀
 unfold FF at h
 unfold topFrom
 cases e:(Shared.heap ⟨⟨⟨l⟩,life⟩,gs,d,k,os⟩).isNs mainGlobals&&(Shared.gens ⟨⟨⟨l⟩,life⟩,gs,d,k,os⟩).size == 0 with
 | false=>rw[e] at h; cases h
 | true=>
  rw[e] at h
  dsimp only at h ⊢
  cases er:Ij l .nil 0 with
  | none=>rw[er] at h; cases h
  | some r=>
   rw[er] at h
   dsimp only at h
   have A:=Eg (life:=life) er
   have z:(absHeap BT.nil 0 life).objs.toList=[]:=rfl
   rw[z,List.nil_append] at A
   split at h
   ·cases h
   ·rename_i s₁ q
    have R:=Ef hS q
    unfold SharedT.abs at R
    dsimp only at R
    rw[A] at R
    rw[R]
    exact h
noncomputable def mO (S:SharedT->Thread->Option (SharedT × Thread))(p:Program)(w:World)(N:Nat):Option Shared:=(fencedOpening treeTable p w N).bind (FF S p N)
theorem Qg {p q:Program}{loose:List Str}{Xt:Shared->Bool}{α:Type}{Yf:Shared->α}{Ya:World->α}{N:Nat}{S:World->SharedT->Thread->Option (SharedT × Thread)}(hS:∀w,S w=stepT (denote treeTable) p w)
  (h:∀w,(mO (S w) p w N).map (λs=>(openSeen q loose (importedModules p.main.body) Xt true s,Yf s))=some (openGood q loose,Ya w)):LeftO p q loose Xt Yf Ya N:=λw=>by
 obtain⟨s,e,e'⟩:=zBf.mp (h w)
 unfold mO at e
 obtain⟨s₀,a,b⟩:=Option.bind_eq_some_iff.mp e
 unfold openEnds
 rw[a]
 show (topFrom treeTable p w N s₀).map _=_
 rw[JU (hS w) b,←e']
 rfl
noncomputable def num:Nat->List Obj->Frag
 | _,[]=>[]
 | i,o::l=>match o.alive with
  | true=>(i,o)::num (i+1) l
  | false=>num (i+1) l
noncomputable def fragOf (h:Heap):Frag:=num 0 h.objs.toList
theorem Eh {a:Nat}{o:Obj}:∀{l:List Obj} {i:Nat},(num i l).lookup a=some o->i<=a/\l[a - i]?=some o/\o.alive=true
 | [],_,h=>by cases h
 | x::l,i,h=>by
  have rest (h:(num (i+1) l).lookup a=some o):i<=a/\(x::l)[a - i]?=some o/\o.alive=true:=by
   obtain⟨p,q,r⟩:=Eh h
   have e:a - i=(a - (i+1))+1:=by omega
   exact⟨by omega,by rw[e]; exact q,r⟩
  unfold num at h
  cases z:x.alive with
  | false=>rw[z] at h; exact rest h
  | true=>
   rw[z] at h
   have h':List.lookup a ((i,x)::num (i+1) l)=some o:=h
   rw[zC3] at h'
   cases e:a == i with
   | true=>
    rw[e] at h'
    cases h'
    have:a=i:=by simpa using e
    subst this
    exact⟨x3 _,by rw[zD7]; rfl,z⟩
   | false=>
    rw[e] at h'
    exact rest h'
theorem MX (h:Heap):(fragOf h).In h:=λa o e=>by
 obtain⟨_,x,y⟩:=Eh e
 rw[Nat.sub_zero,zAc] at x
 exact (Heap.get?_eq_some h a o).mpr ⟨x,y⟩
noncomputable def Qh (s:Stmt):Pos:=match s with
 | .FunctionDef _ _ _ _ _ _ _ _ _ x=>x
 | _=>default
theorem Ik {r:OpenRow}{P q:Program}{loose:List Str}{d:DefRec}{N:Nat}{α:Type}{f:Frag->α}{v:α}{S:World->SharedT->Thread->Option (SharedT × Thread)}(said:r.wellSaid=true)(hP:r.prog=P)(hS:∀w,S w=stepT (denote treeTable) P w)
  (left:∀w,(mO (S w) P w N).map (λs=>openSeen q loose (importedModules P.main.body) (λs=>xlAt q [] s&&recOk r.toRowW.records s) true s)=some (openGood q loose))
  (facts:∀w,(mO (S w) P w N).map (λs=>f (fragOf s.heap))=some v)
  (hdef:defOf q r.name=some (d,[])) (hp:P.theDef r.name=some (d.params,d.body,d.scope)) (hk:kwWritten? d.params.kwonlyargs d.params.kw_defaults=some [])
  (hwr:(!r.writes||List.isEmpty r.records)=true) (ok:(chainsOk q&&opensWell P&&(frees r.toRowW&&r.within.isEmpty))=true) (hb:r.prog.bare) (hw:r.toRowW.promised)
  (call:∀K:Frag,f K=v->WalkO q loose (XL q []) (λ_ h=>K.In h) r.toRowW d [] λf vs=>PySem.call f vs):r.Holds:=by
 subst hP
 refine holds_open (q:=q) (loose:=loose) (Xt:=λs=>xlAt q [] s&&recOk r.toRowW.records s) (XP:=XL q []) (Yf:=λs=>f (fragOf s.heap)) (Ya:=λ_=>v) (YP:=λ_ h=>∃K:Frag,K.In h/\f K=v) (d:=d) (kwd:=[]) (N:=N)
  (Qg hS λw=>?_) (λw s e=>⟨_,MX _,e⟩) (λw h h' ⟨K,a,b⟩ k=>⟨K,a.keeps k,b⟩) (λs e=>xl_of s (zBn.mp e).1) XL.keeps hdef hp hk (λs e=>recFacts_of (zBn.mp e).2) hwr said ok hb hw ?_
 ·obtain⟨s,e,a⟩:=zBf.mp (left w)
  obtain⟨s',e',b⟩:=zBf.mp (facts w)
  cases e.symm.trans e'
  rw[e,←a,←b]
  rfl
 ·intro w s₀ s₁ mg mb G Y
  obtain⟨K,a,b⟩:=Y
  exact call K b w s₀ s₁ mg mb G a
theorem JV {α β γ:Type}{o:Option α}{f:α->β}{g:α->γ}{a:β}{b:γ}(h1:o.map f=some a)(h2:o.map g=some b):o.map (λs=>(f s,g s))=some (a,b):=by
 cases o with
 | none=>cases h1
 | some s=>exact zA3 some (Prod.ext (zAh h1) (zAh h2))
end L2
set_option maxHeartbeats 4000000
namespace jL
open PySem PySem.Spec PyProof.Rows L2
theorem Qi {K:zzA}{h:Heap}{mg:Str->Option Value}{fa:Addr}(X:K.In h)(G:h.Ns mainGlobals mg)(hfa:mg "law"=some (.ref fa))
  (a_are_letters:NF K "are_letters" gm)
  (a_are_fields:NF K "are_fields" ig)
  (a_rises:NF K "rises" pH)
  (a_is_system:NF K "is_system" i9)
  (a_look_system:NF K "look_system" gn)
  (a_mirrored_tiles:NF K "mirrored_tiles" ee)
  (a_look_together:NF K "look_together" fk)
  (a_look_both:NF K "look_both" i_)
  (a_each_once:NF K "each_once" ja)
  (a_moved_field:NF K "moved_field" gp)
  (a_moved_tiles:NF K "moved_tiles" gq)
  (a_stood_tiles:NF K "stood_tiles" gr)
  (a_either:NF K "either" nA)
  (a_pairs_of_marks:NF K "pairs_of_marks" eB)
  (a_face_of:NF K "face_of" lC)
  (a_tiles_by_face:NF K "tiles_by_face" fq)
  (a_paired_tiles:NF K "paired_tiles" fP)
  (a_meeting:NF K "meeting" lD)
  (a_left_of:NF K "left_of" lE)
  (a_right_of:NF K "right_of" jV)
  (a_is_seam:NF K "is_seam" lH)
  (a_seam_tiles:NF K "seam_tiles" ir)
  (a_beside_tiles:NF K "beside_tiles" fQ)
  (a_beside_of:NF K "beside_of" jb)
  (a_over_of:NF K "over_of" lI)
  (a_mirrored_of:NF K "mirrored_of" gu)
  (a_stood_system:NF K "stood_system" fR)
  (a__law_cell:NF K "_law_cell" jc)
  (a__law_mix:NF K "_law_mix" jW)
  (a__law_picture:NF K "_law_picture" fS)
  (a__law_tiles:NF K "_law_tiles" iu)
  (a__law_system:NF K "_law_system" gv)
  (a__law_column:NF K "_law_column" gw)
  (a__law_last:NF K "_law_last" jd)
  (a__law_let:NF K "_law_let" jX)
  (a__law_beside:NF K "_law_beside" gx)
  (a__law_over:NF K "_law_over" je)
  (a__law_joined:NF K "_law_joined" gy)
  (a_law:NF K "law" mC)
  (a_LETTERS:CV K "LETTERS" (.str "abcd"))
  (a_BORDER:CV K "BORDER" (.int (-1)))
  (a_MOST_MARKS:CV K "MOST_MARKS" (.int 16))
  (a_TILE_FIELDS:CV K "TILE_FIELDS" (.int 4))
  (a_EDGE:CN K "EDGE")
  (l_EDGE:GP K (aY K "EDGE") [.int (-1),.int (-1)])
  (z_len:PySem.W.nsIn K mainGlobals "len"=some none)
  (z_all:PySem.W.nsIn K mainGlobals "all"=some none)
  (z_range:PySem.W.nsIn K mainGlobals "range"=some none)
  (z_zip:PySem.W.nsIn K mainGlobals "zip"=some none)
  (z_list:PySem.W.nsIn K mainGlobals "list"=some none)
  (z_tuple:PySem.W.nsIn K mainGlobals "tuple"=some none)
  (z_set:PySem.W.nsIn K mainGlobals "set"=some none)
  (z_sorted:PySem.W.nsIn K mainGlobals "sorted"=some none)
  (z_dict:PySem.W.nsIn K mainGlobals "dict"=some none)
  (z_enumerate:PySem.W.nsIn K mainGlobals "enumerate"=some none) :
  ∃t:Ad,Txt K mg t/\fa=t.wJ/\∀(s:Shared) (u:Value),BindsTo s t.qh ⟨[u],[]⟩ [("_law_script",u)]:=by
 obtain⟨jk,qO⟩:=a_ a_are_letters
 obtain⟨jY,sU⟩:=a_ a_are_fields
 obtain⟨tR,Ei⟩:=a_ a_rises
 obtain⟨kN,uL⟩:=a_ a_is_system
 obtain⟨jl,qP⟩:=a_ a_look_system
 obtain⟨f9,nO⟩:=a_ a_mirrored_tiles
 obtain⟨gU,oR⟩:=a_ a_look_together
 obtain⟨kO,uM⟩:=a_ a_look_both
 obtain⟨kP,uN⟩:=a_ a_each_once
 obtain⟨jn,qQ⟩:=a_ a_moved_field
 obtain⟨jo,qR⟩:=a_ a_moved_tiles
 obtain⟨jq,qS⟩:=a_ a_stood_tiles
 obtain⟨qg,CG⟩:=a_ a_either
 obtain⟨f_,nP⟩:=a_ a_pairs_of_marks
 obtain⟨n_,zK⟩:=a_ a_face_of
 obtain⟨gW,oS⟩:=a_ a_tiles_by_face
 obtain⟨iJ,pW⟩:=a_ a_paired_tiles
 obtain⟨oj,zL⟩:=a_ a_meeting
 obtain⟨om,zM⟩:=a_ a_left_of
 obtain⟨mD,xA⟩:=a_ a_right_of
 obtain⟨oq,zN⟩:=a_ a_is_seam
 obtain⟨jZ,sV⟩:=a_ a_seam_tiles
 obtain⟨iK,pX⟩:=a_ a_beside_tiles
 obtain⟨kQ,uO⟩:=a_ a_beside_of
 obtain⟨ow,zO⟩:=a_ a_over_of
 obtain⟨jr,qT⟩:=a_ a_mirrored_of
 obtain⟨iL,pY⟩:=a_ a_stood_system
 obtain⟨kR,uP⟩:=a_ a__law_cell
 obtain⟨mE,xB⟩:=a_ a__law_mix
 obtain⟨iM,pZ⟩:=a_ a__law_picture
 obtain⟨j4,sW⟩:=a_ a__law_tiles
 obtain⟨jt,qU⟩:=a_ a__law_system
 obtain⟨ju,qV⟩:=a_ a__law_column
 obtain⟨kT,uQ⟩:=a_ a__law_last
 obtain⟨mF,xC⟩:=a_ a__law_let
 obtain⟨jv,qW⟩:=a_ a__law_beside
 obtain⟨kU,uR⟩:=a_ a__law_over
 obtain⟨jw,qX⟩:=a_ a__law_joined
 obtain⟨qh,FG⟩:=a_ a_law
 obtain⟨_,_,_,_,_,_,_,_,_,Rj,_⟩:=id FG.ex
 obtain⟨oz,Il,r_LETTERS⟩:=wF a_LETTERS
 obtain⟨qi,JW,r_BORDER⟩:=wF a_BORDER
 obtain⟨j5,CH,r_MOST_MARKS⟩:=wF a_MOST_MARKS
 obtain⟨jx,Ah,r_TILE_FIELDS⟩:=wF a_TILE_FIELDS
 have e:=hfa.symm.trans (zAd X G a_law.1)
 injection e with e
 injection e with e
 exact⟨⟨(aY K "are_letters"),jk,(aY K "are_fields"),jY,(aY K "rises"),tR,(aY K "is_system"),kN,(aY K "look_system"),jl,(aY K "mirrored_tiles"),f9,(aY K "look_together"),gU,(aY K "look_both"),kO,(aY K "each_once"),kP,(aY K "moved_field"),jn,(aY K "moved_tiles"),jo,(aY K "stood_tiles"),jq,(aY K "either"),qg,(aY K "pairs_of_marks"),f_,(aY K "face_of"),n_,(aY K "tiles_by_face"),gW,(aY K "paired_tiles"),iJ,(aY K "meeting"),oj,(aY K "left_of"),om,(aY K "right_of"),mD,(aY K "is_seam"),oq,(aY K "seam_tiles"),jZ,(aY K "beside_tiles"),iK,(aY K "beside_of"),kQ,(aY K "over_of"),ow,(aY K "mirrored_of"),jr,(aY K "stood_system"),iL,(aY K "_law_cell"),kR,(aY K "_law_mix"),mE,(aY K "_law_picture"),iM,(aY K "_law_tiles"),j4,(aY K "_law_system"),jt,(aY K "_law_column"),ju,(aY K "_law_last"),kT,(aY K "_law_let"),mF,(aY K "_law_beside"),jv,(aY K "_law_over"),kU,(aY K "_law_joined"),jw,(aY K "law"),qh,oz,qi,j5,jx,(aY K "EDGE")⟩,⟨⟨qO,ny qO (λ_ _ _ _ _ _ _=>rfl),zAd X G a_are_letters.1⟩,
  ⟨sU,GO sU (λ_ _ _ _ _ _ _ _ _=>rfl),zAd X G a_are_fields.1⟩,
  ⟨Ei,ny Ei (λ_ _ _ _ _ _ _=>rfl),zAd X G a_rises.1⟩,
  ⟨uL,ny uL (λ_ _ _ _ _ _ _=>rfl),zAd X G a_is_system.1⟩,
  ⟨qP,ny qP (λ_ _ _ _ _ _ _=>rfl),zAd X G a_look_system.1⟩,
  ⟨nO,ny nO (λ_ _ _ _ _ _ _=>rfl),zAd X G a_mirrored_tiles.1⟩,
  ⟨oR,ny oR (λ_ _ _ _ _ _ _=>rfl),zAd X G a_look_together.1⟩,
  ⟨uM,lT uM (λ_ _ _ _ _ _ _ _=>rfl),zAd X G a_look_both.1⟩,
  ⟨uN,ny uN (λ_ _ _ _ _ _ _=>rfl),zAd X G a_each_once.1⟩,
  ⟨qQ,lT qQ (λ_ _ _ _ _ _ _ _=>rfl),zAd X G a_moved_field.1⟩,
  ⟨qR,lT qR (λ_ _ _ _ _ _ _ _=>rfl),zAd X G a_moved_tiles.1⟩,
  ⟨qS,ny qS (λ_ _ _ _ _ _ _=>rfl),zAd X G a_stood_tiles.1⟩,
  ⟨CG,lT CG (λ_ _ _ _ _ _ _ _=>rfl),zAd X G a_either.1⟩,
  ⟨nP,lT nP (λ_ _ _ _ _ _ _ _=>rfl),zAd X G a_pairs_of_marks.1⟩,
  ⟨zK,lT zK (λ_ _ _ _ _ _ _ _=>rfl),zAd X G a_face_of.1⟩,
  ⟨oS,ny oS (λ_ _ _ _ _ _ _=>rfl),zAd X G a_tiles_by_face.1⟩,
  ⟨pW,GO pW (λ_ _ _ _ _ _ _ _ _=>rfl),zAd X G a_paired_tiles.1⟩,
  ⟨zL,lT zL (λ_ _ _ _ _ _ _ _=>rfl),zAd X G a_meeting.1⟩,
  ⟨zM,ny zM (λ_ _ _ _ _ _ _=>rfl),zAd X G a_left_of.1⟩,
  ⟨xA,ny xA (λ_ _ _ _ _ _ _=>rfl),zAd X G a_right_of.1⟩,
  ⟨zN,lT zN (λ_ _ _ _ _ _ _ _=>rfl),zAd X G a_is_seam.1⟩,
  ⟨sV,lT sV (λ_ _ _ _ _ _ _ _=>rfl),zAd X G a_seam_tiles.1⟩,
  ⟨pX,lT pX (λ_ _ _ _ _ _ _ _=>rfl),zAd X G a_beside_tiles.1⟩,
  ⟨uO,lT uO (λ_ _ _ _ _ _ _ _=>rfl),zAd X G a_beside_of.1⟩,
  ⟨zO,lT zO (λ_ _ _ _ _ _ _ _=>rfl),zAd X G a_over_of.1⟩,
  ⟨qT,ny qT (λ_ _ _ _ _ _ _=>rfl),zAd X G a_mirrored_of.1⟩,
  ⟨pY,ny pY (λ_ _ _ _ _ _ _=>rfl),zAd X G a_stood_system.1⟩,
  ⟨uP,lT uP (λ_ _ _ _ _ _ _ _=>rfl),zAd X G a__law_cell.1⟩,
  ⟨xB,lT xB (λ_ _ _ _ _ _ _ _=>rfl),zAd X G a__law_mix.1⟩,
  ⟨pZ,UX pZ (λ_ _ _ _ _ _ _ _ _ _ _=>rfl),zAd X G a__law_picture.1⟩,
  ⟨sW,ny sW (λ_ _ _ _ _ _ _=>rfl),zAd X G a__law_tiles.1⟩,
  ⟨qU,GO qU (λ_ _ _ _ _ _ _ _ _=>rfl),zAd X G a__law_system.1⟩,
  ⟨qV,RI qV (λ_ _ _ _ _ _ _ _ _ _=>rfl),zAd X G a__law_column.1⟩,
  ⟨uQ,lT uQ (λ_ _ _ _ _ _ _ _=>rfl),zAd X G a__law_last.1⟩,
  ⟨xC,lT xC (λ_ _ _ _ _ _ _ _=>rfl),zAd X G a__law_let.1⟩,
  ⟨qW,GO qW (λ_ _ _ _ _ _ _ _ _=>rfl),zAd X G a__law_beside.1⟩,
  ⟨uR,GO uR (λ_ _ _ _ _ _ _ _ _=>rfl),zAd X G a__law_over.1⟩,
  ⟨qX,RI qX (λ_ _ _ _ _ _ _ _ _ _=>rfl),zAd X G a__law_joined.1⟩,
  ⟨FG,ny FG (λ_ _ _ _ _ _ _=>rfl),zAd X G a_law.1⟩,
  zAd X G Il,
  r_LETTERS,
  zAd X G JW,
  r_BORDER,
  zAd X G CH,
  r_MOST_MARKS,
  zAd X G Ah,
  r_TILE_FIELDS,
  zAd X G a_EDGE,
  Mj l_EDGE,
  zB7 X G z_len,
  zB7 X G z_all,
  zB7 X G z_range,
  zB7 X G z_zip,
  zB7 X G z_list,
  zB7 X G z_tuple,
  zB7 X G z_set,
  zB7 X G z_sorted,
  zB7 X G z_dict,
  zB7 X G z_enumerate⟩,e,λs u=>Rj ▸ .of_eq rfl⟩
noncomputable def Lm (K:zzA):=((cE K "are_letters",cJ K "are_letters" (aY K "are_letters")),
 (cE K "are_fields",cJ K "are_fields" (aY K "are_fields")),
 (cE K "rises",cJ K "rises" (aY K "rises")),
 (cE K "is_system",cJ K "is_system" (aY K "is_system")),
 (cE K "look_system",cJ K "look_system" (aY K "look_system")),
 (cE K "mirrored_tiles",cJ K "mirrored_tiles" (aY K "mirrored_tiles")),
 (cE K "look_together",cJ K "look_together" (aY K "look_together")),true)
noncomputable def Qj:TK Lm:=((true,cK "are_letters" "are_letters" gm),
 (true,cK "are_fields" "are_fields" ig),
 (true,cK "rises" "rises" pH),
 (true,cK "is_system" "is_system" i9),
 (true,cK "look_system" "look_system" gn),
 (true,cK "mirrored_tiles" "mirrored_tiles" ee),
 (true,cK "look_together" "look_together" fk),true)
noncomputable def Ln (K:zzA):=((cE K "look_both",cJ K "look_both" (aY K "look_both")),
 (cE K "each_once",cJ K "each_once" (aY K "each_once")),
 (cE K "moved_field",cJ K "moved_field" (aY K "moved_field")),
 (cE K "moved_tiles",cJ K "moved_tiles" (aY K "moved_tiles")),
 (cE K "stood_tiles",cJ K "stood_tiles" (aY K "stood_tiles")),
 (cE K "either",cJ K "either" (aY K "either")),
 (cE K "pairs_of_marks",cJ K "pairs_of_marks" (aY K "pairs_of_marks")),true)
noncomputable def Qk:TK Ln:=((true,cK "look_both" "look_both" i_),
 (true,cK "each_once" "each_once" ja),
 (true,cK "moved_field" "moved_field" gp),
 (true,cK "moved_tiles" "moved_tiles" gq),
 (true,cK "stood_tiles" "stood_tiles" gr),
 (true,cK "either" "either" nA),
 (true,cK "pairs_of_marks" "pairs_of_marks" eB),true)
noncomputable def Lo (K:zzA):=((cE K "face_of",cJ K "face_of" (aY K "face_of")),
 (cE K "tiles_by_face",cJ K "tiles_by_face" (aY K "tiles_by_face")),
 (cE K "paired_tiles",cJ K "paired_tiles" (aY K "paired_tiles")),
 (cE K "meeting",cJ K "meeting" (aY K "meeting")),
 (cE K "left_of",cJ K "left_of" (aY K "left_of")),
 (cE K "right_of",cJ K "right_of" (aY K "right_of")),
 (cE K "is_seam",cJ K "is_seam" (aY K "is_seam")),true)
noncomputable def Ql:TK Lo:=((true,cK "face_of" "face_of" lC),
 (true,cK "tiles_by_face" "tiles_by_face" fq),
 (true,cK "paired_tiles" "paired_tiles" fP),
 (true,cK "meeting" "meeting" lD),
 (true,cK "left_of" "left_of" lE),
 (true,cK "right_of" "right_of" jV),
 (true,cK "is_seam" "is_seam" lH),true)
noncomputable def Lp (K:zzA):=((cE K "seam_tiles",cJ K "seam_tiles" (aY K "seam_tiles")),
 (cE K "beside_tiles",cJ K "beside_tiles" (aY K "beside_tiles")),
 (cE K "beside_of",cJ K "beside_of" (aY K "beside_of")),
 (cE K "over_of",cJ K "over_of" (aY K "over_of")),
 (cE K "mirrored_of",cJ K "mirrored_of" (aY K "mirrored_of")),
 (cE K "stood_system",cJ K "stood_system" (aY K "stood_system")),
 (cE K "_law_cell",cJ K "_law_cell" (aY K "_law_cell")),true)
noncomputable def Qm:TK Lp:=((true,cK "seam_tiles" "seam_tiles" ir),
 (true,cK "beside_tiles" "beside_tiles" fQ),
 (true,cK "beside_of" "beside_of" jb),
 (true,cK "over_of" "over_of" lI),
 (true,cK "mirrored_of" "mirrored_of" gu),
 (true,cK "stood_system" "stood_system" fR),
 (true,cK "_law_cell" "_law_cell" jc),true)
noncomputable def Lq (K:zzA):=((cE K "_law_mix",cJ K "_law_mix" (aY K "_law_mix")),
 (cE K "_law_picture",cJ K "_law_picture" (aY K "_law_picture")),
 (cE K "_law_tiles",cJ K "_law_tiles" (aY K "_law_tiles")),
 (cE K "_law_system",cJ K "_law_system" (aY K "_law_system")),
 (cE K "_law_column",cJ K "_law_column" (aY K "_law_column")),
 (cE K "_law_last",cJ K "_law_last" (aY K "_law_last")),
 (cE K "_law_let",cJ K "_law_let" (aY K "_law_let")),true)
noncomputable def Qn:TK Lq:=((true,cK "_law_mix" "_law_mix" jW),
 (true,cK "_law_picture" "_law_picture" fS),
 (true,cK "_law_tiles" "_law_tiles" iu),
 (true,cK "_law_system" "_law_system" gv),
 (true,cK "_law_column" "_law_column" gw),
 (true,cK "_law_last" "_law_last" jd),
 (true,cK "_law_let" "_law_let" jX),true)
noncomputable def Lr (K:zzA):=((cE K "_law_beside",cJ K "_law_beside" (aY K "_law_beside")),
 (cE K "_law_over",cJ K "_law_over" (aY K "_law_over")),
 (cE K "_law_joined",cJ K "_law_joined" (aY K "_law_joined")),
 (cE K "law",cJ K "law" (aY K "law")),
 KC K "LETTERS",
 KC K "BORDER",
 KC K "MOST_MARKS",true)
noncomputable def Qo:TK Lr:=((true,cK "_law_beside" "_law_beside" gx),
 (true,cK "_law_over" "_law_over" je),
 (true,cK "_law_joined" "_law_joined" gy),
 (true,cK "law" "law" mC),
 some (.str "abcd"),
 some (.int (-1)),
 some (.int 16),true)
noncomputable def Ls (K:zzA):=(KC K "TILE_FIELDS",
 cE K "EDGE",
 KD K (aY K "EDGE"),
 PySem.W.nsIn K mainGlobals "len",
 PySem.W.nsIn K mainGlobals "all",
 PySem.W.nsIn K mainGlobals "range",
 PySem.W.nsIn K mainGlobals "zip",true)
noncomputable def Qp:TK Ls:=(some (.int 4),
 true,
 KG [.int (-1),.int (-1)],
 some none,
 some none,
 some none,
 some none,true)
noncomputable def Lu (K:zzA):=(PySem.W.nsIn K mainGlobals "list",
 PySem.W.nsIn K mainGlobals "tuple",
 PySem.W.nsIn K mainGlobals "set",
 PySem.W.nsIn K mainGlobals "sorted",
 PySem.W.nsIn K mainGlobals "dict",
 PySem.W.nsIn K mainGlobals "enumerate",true)
noncomputable def Qq:TK Lu:=(some none,
 some none,
 some none,
 some none,
 some none,
 some none,true)
noncomputable def Lv (K:zzA):=(Lm K,Ln K,Lo K,Lp K,true)
noncomputable def Qs:TK Lv:=(Qj,Qk,Ql,Qm,true)
noncomputable def Lw (K:zzA):=(Lq K,Lr K,Ls K,Lu K,true)
noncomputable def Qt:TK Lw:=(Qn,Qo,Qp,Qq,true)
noncomputable def fK (K:zzA):=(Lv K,Lw K)
noncomputable def vK:TK fK:=(Qs,Qt)
theorem Wl {K:zzA}(e:Lm K=Qj) :
  (NF K "are_letters" gm)/\
  (NF K "are_fields" ig)/\
  (NF K "rises" pH)/\
  (NF K "is_system" i9)/\
  (NF K "look_system" gn)/\
  (NF K "mirrored_tiles" ee)/\
  (NF K "look_together" fk):=by
 unfold Lm Qj at e
 obtain⟨e0,e⟩:=vT e
 obtain⟨e1,e⟩:=vT e
 obtain⟨e2,e⟩:=vT e
 obtain⟨e3,e⟩:=vT e
 obtain⟨e4,e⟩:=vT e
 obtain⟨e5,e⟩:=vT e
 obtain⟨e6,e⟩:=vT e
 exact⟨(bu e0),(bu e1),(bu e2),(bu e3),(bu e4),(bu e5),(bu e6)⟩
theorem Wm {K:zzA}(e:Ln K=Qk) :
  (NF K "look_both" i_)/\
  (NF K "each_once" ja)/\
  (NF K "moved_field" gp)/\
  (NF K "moved_tiles" gq)/\
  (NF K "stood_tiles" gr)/\
  (NF K "either" nA)/\
  (NF K "pairs_of_marks" eB):=by
 unfold Ln Qk at e
 obtain⟨e0,e⟩:=vT e
 obtain⟨e1,e⟩:=vT e
 obtain⟨e2,e⟩:=vT e
 obtain⟨e3,e⟩:=vT e
 obtain⟨e4,e⟩:=vT e
 obtain⟨e5,e⟩:=vT e
 obtain⟨e6,e⟩:=vT e
 exact⟨(bu e0),(bu e1),(bu e2),(bu e3),(bu e4),(bu e5),(bu e6)⟩
theorem Wn {K:zzA}(e:Lo K=Ql) :
  (NF K "face_of" lC)/\
  (NF K "tiles_by_face" fq)/\
  (NF K "paired_tiles" fP)/\
  (NF K "meeting" lD)/\
  (NF K "left_of" lE)/\
  (NF K "right_of" jV)/\
  (NF K "is_seam" lH):=by
 unfold Lo Ql at e
 obtain⟨e0,e⟩:=vT e
 obtain⟨e1,e⟩:=vT e
 obtain⟨e2,e⟩:=vT e
 obtain⟨e3,e⟩:=vT e
 obtain⟨e4,e⟩:=vT e
 obtain⟨e5,e⟩:=vT e
 obtain⟨e6,e⟩:=vT e
 exact⟨(bu e0),(bu e1),(bu e2),(bu e3),(bu e4),(bu e5),(bu e6)⟩
theorem Wo {K:zzA}(e:Lp K=Qm) :
  (NF K "seam_tiles" ir)/\
  (NF K "beside_tiles" fQ)/\
  (NF K "beside_of" jb)/\
  (NF K "over_of" lI)/\
  (NF K "mirrored_of" gu)/\
  (NF K "stood_system" fR)/\
  (NF K "_law_cell" jc):=by
 unfold Lp Qm at e
 obtain⟨e0,e⟩:=vT e
 obtain⟨e1,e⟩:=vT e
 obtain⟨e2,e⟩:=vT e
 obtain⟨e3,e⟩:=vT e
 obtain⟨e4,e⟩:=vT e
 obtain⟨e5,e⟩:=vT e
 obtain⟨e6,e⟩:=vT e
 exact⟨(bu e0),(bu e1),(bu e2),(bu e3),(bu e4),(bu e5),(bu e6)⟩
theorem Wq {K:zzA}(e:Lq K=Qn) :
  (NF K "_law_mix" jW)/\
  (NF K "_law_picture" fS)/\
  (NF K "_law_tiles" iu)/\
  (NF K "_law_system" gv)/\
  (NF K "_law_column" gw)/\
  (NF K "_law_last" jd)/\
  (NF K "_law_let" jX):=by
 unfold Lq Qn at e
 obtain⟨e0,e⟩:=vT e
 obtain⟨e1,e⟩:=vT e
 obtain⟨e2,e⟩:=vT e
 obtain⟨e3,e⟩:=vT e
 obtain⟨e4,e⟩:=vT e
 obtain⟨e5,e⟩:=vT e
 obtain⟨e6,e⟩:=vT e
 exact⟨(bu e0),(bu e1),(bu e2),(bu e3),(bu e4),(bu e5),(bu e6)⟩
theorem Wr {K:zzA}(e:Lr K=Qo) :
  (NF K "_law_beside" gx)/\
  (NF K "_law_over" je)/\
  (NF K "_law_joined" gy)/\
  (NF K "law" mC)/\
  (CV K "LETTERS" (.str "abcd"))/\
  (CV K "BORDER" (.int (-1)))/\
  (CV K "MOST_MARKS" (.int 16)):=by
 unfold Lr Qo at e
 obtain⟨e0,e⟩:=vT e
 obtain⟨e1,e⟩:=vT e
 obtain⟨e2,e⟩:=vT e
 obtain⟨e3,e⟩:=vT e
 obtain⟨e4,e⟩:=vT e
 obtain⟨e5,e⟩:=vT e
 obtain⟨e6,e⟩:=vT e
 exact⟨(bu e0),(bu e1),(bu e2),(bu e3),e4,e5,e6⟩
theorem Ws {K:zzA}(e:Ls K=Qp) :
  (CV K "TILE_FIELDS" (.int 4))/\
  (CN K "EDGE")/\
  (GP K (aY K "EDGE") [.int (-1),.int (-1)])/\
  (PySem.W.nsIn K mainGlobals "len"=some none)/\
  (PySem.W.nsIn K mainGlobals "all"=some none)/\
  (PySem.W.nsIn K mainGlobals "range"=some none)/\
  (PySem.W.nsIn K mainGlobals "zip"=some none):=by
 unfold Ls Qp at e
 obtain⟨e0,e⟩:=vT e
 obtain⟨e1,e⟩:=vT e
 obtain⟨e2,e⟩:=vT e
 obtain⟨e3,e⟩:=vT e
 obtain⟨e4,e⟩:=vT e
 obtain⟨e5,e⟩:=vT e
 obtain⟨e6,e⟩:=vT e
 exact⟨e0,(KA e1),(QW e2),e3,e4,e5,e6⟩
theorem Wt {K:zzA}(e:Lu K=Qq) :
  (PySem.W.nsIn K mainGlobals "list"=some none)/\
  (PySem.W.nsIn K mainGlobals "tuple"=some none)/\
  (PySem.W.nsIn K mainGlobals "set"=some none)/\
  (PySem.W.nsIn K mainGlobals "sorted"=some none)/\
  (PySem.W.nsIn K mainGlobals "dict"=some none)/\
  (PySem.W.nsIn K mainGlobals "enumerate"=some none):=by
 unfold Lu Qq at e
 obtain⟨e0,e⟩:=vT e
 obtain⟨e1,e⟩:=vT e
 obtain⟨e2,e⟩:=vT e
 obtain⟨e3,e⟩:=vT e
 obtain⟨e4,e⟩:=vT e
 obtain⟨e5,e⟩:=vT e
 exact⟨e0,e1,e2,e3,e4,e5⟩
theorem Qu {K:zzA}{h:Heap}{mg:Str->Option Value}{fa:Addr}(e:fK K=vK)(X:K.In h)(G:h.Ns mainGlobals mg)(hfa:mg "law"=some (.ref fa)) :
  ∃t:Ad,Txt K mg t/\fa=t.wJ/\∀(s:Shared) (u:Value),BindsTo s t.qh ⟨[u],[]⟩ [("_law_script",u)]:=by
 obtain⟨ea,eb⟩:=vT e
 unfold Lv Qs at ea
 unfold Lw Qt at eb
 obtain⟨c0,ea⟩:=vT ea
 obtain⟨c1,ea⟩:=vT ea
 obtain⟨c2,ea⟩:=vT ea
 obtain⟨c3,ea⟩:=vT ea
 obtain⟨c4,eb⟩:=vT eb
 obtain⟨c5,eb⟩:=vT eb
 obtain⟨c6,eb⟩:=vT eb
 obtain⟨c7,eb⟩:=vT eb
 obtain⟨e0,e1,e2,e3,e4,e5,e6⟩:=Wl c0
 obtain⟨e7,e8,e9,e10,d7,Ii,Wu⟩:=Wm c1
 obtain⟨Wv,Ww,Wx,Wy,Wz,WA,WB⟩:=Wn c2
 obtain⟨WC,WE,WG,WH,WI,WJ,WK⟩:=Wo c3
 obtain⟨WL,WM,WN,WO,WQ,WR,WS⟩:=Wq c4
 obtain⟨WT,WU,WV,WW,WX,WY,WZ⟩:=Wr c5
 obtain⟨W0,W3,W4,W5,W6,W7,W8⟩:=Ws c6
 obtain⟨W9,W_,Xa,Xb,Xc,Xd⟩:=Wt c7
 exact Qi X G hfa e0 e1 e2 e3 e4 e5 e6 e7 e8 e9 e10 d7 Ii Wu Wv Ww Wx Wy Wz WA WB WC WE WG WH WI WJ WK WL WM WN WO WQ WR WS WT WU WV WW WX WY WZ W0 W3 W4 W5 W6 W7 W8 W9 W_ Xa Xb Xc Xd
theorem Qv {P:Program}{w:World}{K:zzA}{mg:Str->Option Value}{fa:Addr}(h:∃t:Ad,Txt K mg t/\fa=t.wJ/\∀(s:Shared) (u:Value),BindsTo s t.qh ⟨[u],[]⟩ [("_law_script",u)]) :
  ∃fd:FuncData,(∀(s:Shared) (u:Value),BindsTo s fd ⟨[u],[]⟩ [("_law_script",u)])/\∀base:Heap,K.In base->base.Ns mainGlobals mg->bx P w K mg base cA 6 fa fd ["_law_script"] (xy K):=by
 obtain⟨t,T,rfl,hb⟩:=h
 exact⟨_,hb,λbase _ _=>P4 T⟩
theorem walk {l:PySem.W.OpenLaw}{q:Program}{loose:List Str}{XP:(Str->Option Value)->Heap->Prop}{YP:World->Heap->Prop}{d:DefRec}{K:Params->zzA}(hn:l.most=some 63)(hdf:d.params.defaults=[])
  (hY:∀(w:World) (h:Heap),YP w h->(K w.params).In h)
  (F:∀(w:World) (mg:Str->Option Value) (fa:Addr) (h:Heap),(K w.params).In h->h.Ns mainGlobals mg->mg d.name=some (.ref fa)->
   ∃fd:FuncData,(∀(s:Shared) (u:Value),BindsTo s fd ⟨[u],[]⟩ [("_law_script",u)])/\∀base:Heap,(K w.params).In base->base.Ns mainGlobals mg->bx l.prog w (K w.params) mg base cA 6 fa fd ["_law_script"] (xy (K w.params))) :
  PySem.W.WalkO q loose XP YP l.row.toRowW d [] (λf vs=>PySem.call f vs):=
 L2.LS (n:=63) (k:=6) (x:="_law_script") (CX:=λ_=>cA) (sp:=λw=>xy (K w.params)) hn (by decide) hdf ⟨rfl,by decide,by decide⟩ hY F (λ_ _ a ns hl _ hS=>⟨a,ns,rfl,hS,hl,λ_=>rfl⟩) λ_ _ _ _ _ z=>z
end jL
open PySem PySem.W PyProof.Rows
lay_quick PySem.Challenge.pw_quiltyard_k40_whole_joined
namespace jL
noncomputable def T4:DefRec:=⟨"law",L2.eS mC,L2.dW mC,L2.aI mC,L2.Qh mC⟩
noncomputable abbrev P:Program:=PySem.W.Fast.tw5424354182517473354
noncomputable abbrev S (w:World):=PySem.W.Fast.tw10156331382660048174 (PySem.W.Fast.tw11892475500146522536 PySem.W.Fast.tw14364793385576792824) P w
theorem same (w:World):S w=stepT (denote treeTable) P w:=by
 unfold S
 rw[←PySem.W.Fast.te10156331382660048174,←PySem.W.Fast.te11892475500146522536,←PySem.W.Fast.te14364793385576792824]
noncomputable def lo:List Str:=(["__name__","QuiltError","BadSystem","LETTERS","are_letters","BORDER","MOST_MARKS","TILE_FIELDS","are_fields","rises","is_system","look_system","mirrored_tiles","EDGE","look_together","look_both","each_once","moved_field","moved_tiles","stood_tiles","either","pairs_of_marks","face_of","tiles_by_face","paired_tiles","meeting","left_of","right_of","is_seam","seam_tiles","beside_tiles","beside_of","over_of","mirrored_of","stood_system","_law_cell","_law_mix","_law_picture","_law_tiles","_law_system","_law_column","_law_last","_law_let","_law_beside","_law_over","_law_joined"]:List String).map ofString
theorem Qw:∀w,(L2.mO (S w) P w 40000).map (λs=>Lv (L2.fragOf s.heap))=some Qs:=λw=>by kernel_rfl
theorem Qx:∀w,(L2.mO (S w) P w 40000).map (λs=>Lw (L2.fragOf s.heap))=some Qt:=λw=>by kernel_rfl
theorem facts:∀w,(L2.mO (S w) P w 40000).map (λs=>fK (L2.fragOf s.heap))=some vK:=λw=>L2.JV (Qw w) (Qx w)
theorem Rl:∀w,(L2.mO (S w) P w 40000).map (λs=>PySem.W.Fast.tw4187177175401517315 (view P [50]) lo (importedModules P.main.body) (λs=>xlAt (view P [50]) [] s&&recOk (OpenLaw.row PySem.Challenge.rw_quiltyard_k40_whole_joined).toRowW.records s) true s)=some (openGood (view P [50]) lo):=λw=>by kernel_rfl
theorem left:∀w,(L2.mO (S w) P w 40000).map (λs=>openSeen (view P [50]) lo (importedModules P.main.body) (λs=>xlAt (view P [50]) [] s&&recOk (OpenLaw.row PySem.Challenge.rw_quiltyard_k40_whole_joined).toRowW.records s) true s)=some (openGood (view P [50]) lo):=by
 rw[PySem.W.Fast.te4187177175401517315]
 exact Rl
end jL
set_option maxRecDepth 100000 in
set_option maxHeartbeats 0 in
theorem PySem.Challenge.cw_quiltyard_k40_whole_joined_holds : PySem.Challenge.rw_quiltyard_k40_whole_joined.Holds := by
  w_on; o_law
  refine L2.Ik (P := jL.P) (q := view jL.P [50]) (loose := jL.lo) (d := jL.T4) (N := 40000) (f := jL.fK) (v := jL.vK) (S := jL.S) (by assumption) PySem.W.Fast.te5424354182517473354 jL.same jL.left jL.facts
    (by kernel_rfl) (by kernel_rfl) (by kernel_rfl) (by kernel_rfl) (by kernel_rfl) ⟨rfl, rfl, rfl, rfl, rfl, by decide +kernel⟩ ?hw ?hc
  case hw => w_witness2
  case hc =>
    intro K e
    exact jL.walk (l := PySem.Challenge.rw_quiltyard_k40_whole_joined) (K := fun _ => K) rfl (by kernel_rfl) (fun w h Y => Y) fun w mg fa h KX G hmg => jL.Qv (jL.Qu e KX G hmg)
