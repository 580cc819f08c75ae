import PyProof.Rows.All
import Wide.All
import OpenK.AllK
import Wide.FinOn
import PySem.SetTable
import PyProof.TupleKey
import PyProof.SetKind
import PyProof.IsRules
import PyProof.SetRoads
import PyProof.Rows.SetFrom
import PyProof.CollectWalk
import PyProof.DictWalks
import KE.KSortTup
import Lean
import PyProof.EqAt
import PyProof.EqKinds
import PyProof.TupleCall
import PyProof.Rows.StrLen
import PyProof.Rows.StrStep
import KE.KTryMore
import PyProof.NeKinds
import PyProof.NeData
import PyProof.AttrMissHeap
import PyProof.DictRoadsH
import PyProof.Rows.TupTab
import KE.KDictOf
import Wide.Seal
import KE.KItemsList
import KE.KDictSum
import PyProof.Rows.SortWalk
import PyProof.Draws
import PyProof.EnumMake
import KE.KRevIter
import PyProof.SumWalk
import PyProof.AutoIntG2
import PyProof.StrOps2
import PySem.Challenge.RW_quiltyard_k41_too_many_marks
set_option Elab.async false
set_option linter.all false
set_option maxRecDepth 100000

namespace TB
open PySem PySem.SetTable

end TB


namespace TB
open PySem PySem.SetTable

end TB


namespace TB
open PySem
section
variable {prog : Program} {w : World} {K : Type} [DecidableEq K] {knd : KeyKind prog w K} {A : Around} {E : Value → Shared → Prop} {s : Shared}

end
end TB

namespace TB
open PySem
section
variable {prog : Program} {w : World} {K : Type} [DecidableEq K] {knd : KeyKind prog w K} {A : Around} {E : Value → Shared → Prop} {s : Shared}
end
end TB

namespace TB
open PySem
section
variable {prog : Program} {w : World} {K : Type} [DecidableEq K] {knd : KeyKind prog w K} {A : Around} {E : Value → Shared → Prop} {s : Shared}
def picked (ps : List (Addr × List K)) (order : List Nat) : List (Addr × List K) := order.filterMap (ps[·]?)
theorem picked_map {β : Type} (f : Addr × List K → β) (ps : List (Addr × List K)) (d : β) : ∀ (order : List Nat), (∀ q ∈ order, q < ps.length) → (picked ps order).map f = order.map fun q => (ps.map f).getD q d
  | [], _ => rfl
  | q :: r, h => by
    have hq := h q List.mem_cons_self
    have ih := picked_map f ps d r fun x hx => h x (List.mem_cons_of_mem _ hx)
    unfold picked at ih ⊢
    rw [List.filterMap_cons, List.getElem?_eq_getElem hq]
    show f ps[q] :: _ = _
    rw [ih, List.map_cons]
    congr 1
    simp [hq]
end
end TB

namespace TB
open PySem PySem.Spec
section
variable {prog : Program} {w : World} {K : Type} [DecidableEq K] {knd : KeyKind prog w K} {A : Around} {E : Value → Shared → Prop} {s : Shared}
theorem key_at {h h' : Heap} {ks : List K} {a : Addr} (x : IsTupleKey knd h ks a) (k : ∀ o, h.get? a = some o → h'.get? a = some o) : IsTupleKey knd h' ks a := by
  obtain ⟨o, items, n, ho, r⟩ := x
  exact ⟨o, items, n, k o ho, r⟩
variable {I : Addr} {fp wr : List Addr} {n : Nat} {P : Nat → Value → Prop} {St : Nat → Heap → Prop} {R : Result → Shared → Prop}
end

section
variable {prog : Program} {w : World} {K : Type} [DecidableEq K] {knd : KeyKind prog w K} {A : Around} {E : Value → Shared → Prop} {s : Shared}
end
end TB

namespace TB
open PySem PySem.Spec

namespace SF
end SF
section
variable {prog : Program} {w : World} {K : Type} [DecidableEq K] {knd : KeyKind prog w K} {A : Around} {E : Value → Shared → Prop} {s : Shared}
variable {S I : Addr} {o : Obj} {es : Array (Int × Value)} {ep : Nat} {t : SetTable}
end
end TB

namespace TB
open PySem PySem.Spec
namespace SF
end SF
section
variable {prog : Program} {w : World} {K : Type} [DecidableEq K] {knd : KeyKind prog w K} {A : Around} {E : Value → Shared → Prop} {s : Shared}
variable {S I : Addr} {o : Obj} {es : Array (Int × Value)} {ep : Nat} {t : SetTable}
end
end TB

namespace TB
open PySem PySem.Spec
section
variable {prog : Program} {w : World} {K : Type} [DecidableEq K] {knd : KeyKind prog w K} {A : Around} {E : Value → Shared → Prop} {s : Shared}
variable {S : Addr} {o : Obj} {es : Array (Int × Value)} {ep : Nat} {t : SetTable}
end
end TB


namespace TB
open PySem PySem.W PyProof.Rows
def run {α : Type} (r : Nat → Nat) : KasT α → α
  | .ret a => a
  | .ask i j k => run r (k (decide (r i < r j)))
theorem run_bind {α β : Type} (r : Nat → Nat) (f : α → KasT β) : ∀ t : KasT α, run r (t.bind f) = run r (f (run r t))
  | .ret _ => rfl
  | .ask i j k => run_bind r f (k (decide (r i < r j)))
/-- every question is about places below n; R holds of what comes out -/
def GA (n : Nat) {α : Type} (R : α → Prop) : KasT α → Prop
  | .ret a => R a
  | .ask i j k => i < n ∧ j < n ∧ ∀ b, GA n R (k b)
theorem GA.bind {n : Nat} {α β : Type} {R : α → Prop} {R' : β → Prop} {f : α → KasT β} (hf : ∀ a, R a → GA n R' (f a)) : ∀ t : KasT α, GA n R t → GA n R' (t.bind f)
  | .ret a, h => hf a h
  | .ask i j k, h => ⟨h.1, h.2.1, fun b => GA.bind hf (k b) (h.2.2 b)⟩
theorem wp_run' {n : Nat} {α : Type} {r : Nat → Nat} {cmp : Nat → Nat → (Bool → Shared → Prop) → Shared → Prop} {s : Shared} (hc : ∀ i j (C : Bool → Shared → Prop), i < n → j < n → C (decide (r i < r j)) s → cmp i j C s) {R : α → Prop} {Q : α → Shared → Prop} :
    ∀ t : KasT α, GA n R t → Q (run r t) s → t.kasWp cmp Q s
  | .ret a, _, h => h
  | .ask i j k, g, h => hc i j _ g.1 g.2.1 (wp_run' hc (k (decide (r i < r j))) (g.2.2 _) h)
def Lo (n : Nat) (p : Array Nat) : Prop := ∀ k, p.getD k 0 < n
theorem lo_swaps {n : Nat} (u v : Nat → Nat) : ∀ (l : List Nat) (p : Array Nat), Lo n p → Lo n (l.foldl (fun a k => a.swapIfInBounds (u k) (v k)) p)
  | [], p, h => h
  | k :: l, p, h => by
    refine lo_swaps u v l _ fun x => ?_
    show (p.swapIfInBounds (u k) (v k)).getD x 0 < n
    rw [Array.getD_eq_getD_getElem?]
    by_cases hi : u k < p.size
    · by_cases hj : v k < p.size
      · rw [getElem?_swapIB hi hj]
        split
        · rw [← Array.getD_eq_getD_getElem?]; exact h _
        · split
          · rw [← Array.getD_eq_getD_getElem?]; exact h _
          · rw [← Array.getD_eq_getD_getElem?]; exact h _
      · rw [Array.swapIfInBounds_def, dif_pos hi, dif_neg hj, ← Array.getD_eq_getD_getElem?]; exact h _
    · rw [Array.swapIfInBounds_def, dif_neg hi, ← Array.getD_eq_getD_getElem?]; exact h _
theorem Lo.rev {n : Nat} {p : Array Nat} (h : Lo n p) (i j : Nat) : Lo n (kas_rev p i j) := lo_swaps _ _ _ _ h
theorem Lo.bub {n : Nat} {p : Array Nat} (h : Lo n p) (i j : Nat) : Lo n (bubble p i j) := lo_swaps _ _ _ _ h
theorem ga_asc {n : Nat} {p : Array Nat} (h : Lo n p) : ∀ f m, GA n (fun _ => True) (kas_asc p f m)
  | 0, m => trivial
  | f + 1, m => ⟨h _, h _, fun b => by
    cases b with
    | true => exact trivial
    | false => exact ga_asc h f (m + 1)⟩
theorem ga_desc {n : Nat} : ∀ f (p : Array Nat) m q, Lo n p → GA n (fun x : Array Nat × Nat × Nat => Lo n x.1) (kas_desc f p m q)
  | 0, p, m, q, h => h
  | f + 1, p, m, q, h => ⟨h _, h _, fun b => by
    cases b with
    | true =>
      show GA n _ (if q > 0 then _ else _)
      split
      · exact ga_desc f _ _ _ (h.rev _ _)
      · exact ga_desc f _ _ _ h
    | false => exact ⟨h _, h _, fun d => by
        cases d with
        | true => exact h
        | false => exact ga_desc f _ _ _ h⟩⟩
theorem ga_tail3 {n m k : Nat} {p : Array Nat} (h : Lo n p) : GA n (fun x : Nat × Array Nat => Lo n x.2) (kas_tail3 m k p) := by
  unfold kas_tail3
  refine GA.bind (R := fun _ => True) (fun a _ => ?_) _ (ga_asc (h.rev _ _) _ _)
  exact h.rev _ _
theorem ga_descPart {n m k : Nat} {p : Array Nat} (h : Lo n p) : GA n (fun x : Nat × Array Nat => Lo n x.2) (kas_descPart m k p) := GA.bind (fun a ha => by
    split
    · exact ga_tail3 (ha.rev _ _)
    · exact ga_tail3 ha) _ (ga_desc _ _ _ _ h)
theorem ga_count {n k : Nat} {p : Array Nat} (h : Lo n p) : GA n (fun x : Nat × Array Nat => Lo n x.2) (kas_count k p) := GA.bind (fun a _ => by
    split
    · exact h
    · split
      · exact ⟨h _, h _, fun b => by
          cases b with
          | true => exact h
          | false => exact ga_descPart (h.rev _ _)⟩
      · exact ga_descPart h) _ (ga_asc h _ _)
theorem ga_place {n k : Nat} {p : Array Nat} (h : Lo n p) : ∀ f a b, GA n (fun _ => True) (kas_place p k f a b)
  | 0, a, b => trivial
  | f + 1, a, b => by
    unfold kas_place
    split
    · exact trivial
    · exact ⟨h _, h _, fun c => by
        cases c with
        | true => exact ga_place h f _ _
        | false => exact ga_place h f _ _⟩
theorem ga_bin {n : Nat} : ∀ f (p : Array Nat) k, Lo n p → GA n (fun _ => True) (kas_bin f p k)
  | 0, p, k, h => trivial
  | f + 1, p, k, h => GA.bind (fun l _ => ga_bin f _ _ (h.bub _ _)) _ (ga_place h _ _ _)
theorem ga_sort {n : Nat} (hn : 0 < n) : GA n (fun _ => True) (kas_sort n) := GA.bind (fun a ha => by
    split
    · exact ga_bin _ _ _ ha
    · exact trivial) _ (ga_count fun k => by
      rw [Array.getD_eq_getD_getElem?]
      by_cases c : k < n
      · simp [c]
      · simp [c, hn])
section
variable {r : Nat → Nat} {n : Nat}
/-- the ranks stand apart -/
structure Ok (r : Nat → Nat) (n : Nat) (p : Array Nat) : Prop where
  size : p.size = n
  inj : ∀ a b, a < n → b < n → r (p.getD a 0) = r (p.getD b 0) → a = b
theorem getD_of {p q : Array Nat} {k l : Nat} (h : p[k]? = q[l]?) : p.getD k 0 = q.getD l 0 := by
  rw [Array.getD_eq_getD_getElem?, Array.getD_eq_getD_getElem?, h]
theorem Ok.rev {p : Array Nat} (h : Ok r n p) {m : Nat} (hm : m ≤ n) : Ok r n (kas_rev p 0 m) ∧ ∀ k, (kas_rev p 0 m).getD k 0 = p.getD (if k < m then m - 1 - k else k) 0 := by
  have g : ∀ k, (kas_rev p 0 m).getD k 0 = p.getD (if k < m then m - 1 - k else k) 0 := fun k => by
    refine getD_of ?_
    unfold kas_rev
    rw [getElem?_mirror_all (by rw [h.size]; exact hm)]
    by_cases c : k < m
    · rw [if_pos ⟨Nat.zero_le _, c⟩, if_pos c]; congr 1; omega
    · rw [if_neg (by omega), if_neg c]
  refine ⟨⟨by unfold kas_rev; rw [mirror_size, h.size], fun a b ha hb e => ?_⟩, g⟩
  rw [g, g] at e
  have := h.inj _ _ (by split <;> omega) (by split <;> omega) e
  split at this <;> split at this <;> omega
theorem Ok.bub {p : Array Nat} (h : Ok r n p) {k l : Nat} (hk : k < n) (hl : l ≤ k) : Ok r n (bubble p k (k - l)) ∧ ∀ j, (bubble p k (k - l)).getD j 0 = p.getD (if j = l then k else if l < j ∧ j ≤ k then j - 1 else j) 0 := by
  have g : ∀ j, (bubble p k (k - l)).getD j 0 = p.getD (if j = l then k else if l < j ∧ j ≤ k then j - 1 else j) 0 := fun j => by
    refine getD_of ?_
    rw [getElem?_bubble (by rw [h.size]; exact hk) _ (by omega)]
    rw [show k - (k - l) = l by omega]
    split
    · rfl
    · split <;> rfl
  refine ⟨⟨by rw [bubble_size, h.size], fun a b ha hb e => ?_⟩, g⟩
  rw [g, g] at e
  have bd : ∀ j, j < n → (if j = l then k else if l < j ∧ j ≤ k then j - 1 else j) < n := fun j hj => by
    by_cases c1 : j = l
    · rw [if_pos c1]; exact hk
    · rw [if_neg c1]
      by_cases c2 : l < j ∧ j ≤ k
      · rw [if_pos c2]; omega
      · rw [if_neg c2]; exact hj
  have := h.inj _ _ (bd a ha) (bd b hb) e
  have ch : ∀ j, ∃ q, q = (if j = l then k else if l < j ∧ j ≤ k then j - 1 else j) ∧ (j = l → q = k) ∧ ((j ≠ l ∧ l < j ∧ j ≤ k) → q = j - 1) ∧ ((j ≠ l ∧ ¬ (l < j ∧ j ≤ k)) → q = j) := fun j => by
    refine ⟨_, rfl, fun c => if_pos c, fun c => ?_, fun c => ?_⟩
    · rw [if_neg c.1, if_pos c.2]
    · rw [if_neg c.1, if_neg c.2]
  obtain ⟨qa, ea, a1, a2, a3⟩ := ch a
  obtain ⟨qb, eb, b1, b2, b3⟩ := ch b
  rw [← ea, ← eb] at this
  omega
def Up (r : Nat → Nat) (p : Array Nat) (m : Nat) : Prop := ∀ t, 1 ≤ t → t < m → r (p.getD (t - 1) 0) < r (p.getD t 0)
theorem Up.lt {p : Array Nat} {m : Nat} (h : Up r p m) : ∀ d i, i + d + 1 < m → r (p.getD i 0) < r (p.getD (i + d + 1) 0)
  | 0, i, hi => by
    have := h (i + 1) (by omega) (by omega)
    rwa [show i + 1 - 1 = i by omega] at this
  | d + 1, i, hi => by
    have h1 := Up.lt h d i (by omega)
    have h2 := h (i + (d + 1) + 1) (by omega) hi
    rw [show i + (d + 1) + 1 - 1 = i + d + 1 by omega] at h2
    exact Nat.lt_trans h1 h2
theorem Up.lt' {p : Array Nat} {m i j : Nat} (h : Up r p m) (hij : i < j) (hj : j < m) : r (p.getD i 0) < r (p.getD j 0) := by
  have := h.lt (j - i - 1) i (by omega)
  rwa [show i + (j - i - 1) + 1 = j by omega] at this
theorem run_asc {p : Array Nat} (h : Ok r n p) : ∀ f m, 1 ≤ m → m + f = n → Up r p m → m ≤ run r (kas_asc p f m) ∧ run r (kas_asc p f m) ≤ n ∧ Up r p (run r (kas_asc p f m)) ∧ (run r (kas_asc p f m) < n → r (p.getD (run r (kas_asc p f m)) 0) < r (p.getD (run r (kas_asc p f m) - 1) 0))
  | 0, m, h1, e, u => ⟨Nat.le_refl _, by show m ≤ n; omega, u, fun (z : m < n) => by omega⟩
  | f + 1, m, h1, e, u => by
    unfold kas_asc run
    by_cases c : r (p.getD m 0) < r (p.getD (m - 1) 0)
    · rw [decide_eq_true c]; dsimp only; rw [if_pos rfl]
      exact ⟨Nat.le_refl _, by show m ≤ n; omega, u, fun _ => c⟩
    · rw [decide_eq_false c]; dsimp only; rw [if_neg (by decide)]
      have hne : r (p.getD (m - 1) 0) < r (p.getD m 0) := by
        rcases Nat.lt_or_ge (r (p.getD (m - 1) 0)) (r (p.getD m 0)) with q | q
        · exact q
        · have := h.inj (m - 1) m (by omega) (by omega) (by omega)
          omega
      obtain ⟨a1, a2, a3, a4⟩ := run_asc h f (m + 1) (by omega) (by omega) fun t ht1 ht2 => by
        by_cases ct : t = m
        · rw [ct]; exact hne
        · exact u t ht1 (by omega)
      exact ⟨by omega, a2, a3, a4⟩
def Down (r : Nat → Nat) (p : Array Nat) (m : Nat) : Prop := ∀ t, 1 ≤ t → t < m → r (p.getD t 0) < r (p.getD (t - 1) 0)
theorem run_desc {p : Array Nat} (h : Ok r n p) : ∀ f m, 2 ≤ m → m + f = n → Down r p m → ∃ m', run r (kas_desc f p m 0) = (p, m', 0) ∧ m ≤ m' ∧ m' ≤ n ∧ Down r p m'
  | 0, m, h1, e, d => ⟨m, rfl, Nat.le_refl _, by omega, d⟩
  | f + 1, m, h1, e, d => by
    unfold kas_desc run
    by_cases c : r (p.getD m 0) < r (p.getD (m - 1) 0)
    · rw [decide_eq_true c]; dsimp only; rw [if_pos rfl, if_neg (by omega)]
      obtain ⟨m', e1, e2, e3, e4⟩ := run_desc h f (m + 1) (by omega) (by omega) fun t ht1 ht2 => by
        by_cases ct : t = m
        · rw [ct]; exact c
        · exact d t ht1 (by omega)
      exact ⟨m', e1, by omega, e3, e4⟩
    · rw [decide_eq_false c]; dsimp only; rw [if_neg (by decide)]
      have hne : r (p.getD (m - 1) 0) < r (p.getD m 0) := by
        rcases Nat.lt_or_ge (r (p.getD (m - 1) 0)) (r (p.getD m 0)) with q | q
        · exact q
        · have := h.inj (m - 1) m (by omega) (by omega) (by omega)
          omega
      show ∃ m', run r (if decide (r (p.getD (m - 1) 0) < r (p.getD m 0)) = true then KasT.ret (p, m, 0) else kas_desc f p (m + 1) (0 + 1)) = (p, m', 0) ∧ _
      rw [decide_eq_true hne, if_pos rfl]
      exact ⟨m, rfl, Nat.le_refl _, by omega, d⟩
theorem run_tail3 {p : Array Nat} (h : Ok r n p) {m : Nat} (h1 : 1 ≤ m) (hm : m ≤ n) (d : Down r p m) : ∃ m' p', run r (kas_tail3 m n p) = (m', p') ∧ 1 ≤ m' ∧ m' ≤ n ∧ Ok r n p' ∧ Up r p' m' ∧ p'.Perm p := by
  obtain ⟨h', g⟩ := h.rev hm
  have u : Up r (kas_rev p 0 m) m := fun t ht1 ht2 => by
    rw [g, g, if_pos (by omega), if_pos ht2]
    have := d (m - 1 - (t - 1)) (by omega) (by omega)
    rwa [show m - 1 - (t - 1) - 1 = m - 1 - t by omega] at this
  obtain ⟨a1, a2, a3, _⟩ := run_asc h' (n - m) m h1 (by omega) u
  unfold kas_tail3
  rw [run_bind]
  exact ⟨_, _, rfl, by omega, a2, h', a3, mirror_perm _ _ _ _⟩
theorem run_count {p : Array Nat} (h : Ok r n p) (hn : 1 ≤ n) : ∃ m' p', run r (kas_count n p) = (m', p') ∧ 1 ≤ m' ∧ m' ≤ n ∧ Ok r n p' ∧ Up r p' m' ∧ p'.Perm p := by
  unfold kas_count
  rw [run_bind]
  obtain ⟨a1, a2, a3, a4⟩ := run_asc h (n - 1) 1 (Nat.le_refl _) (by omega) fun t h1 h2 => by omega
  generalize run r (kas_asc p (n - 1) 1) = m at *
  by_cases c : m = n
  · rw [if_pos (by simp [c])]
    exact ⟨m, p, rfl, a1, a2, h, a3, Array.Perm.refl _⟩
  · rw [if_neg (by simpa using c)]
    by_cases c2 : m > 1
    · rw [if_pos c2]
      unfold run
      rw [decide_eq_true (a3.lt' (show 0 < m - 1 by omega) (by omega))]; dsimp only; rw [if_pos rfl]
      exact ⟨m, p, rfl, a1, a2, h, a3, Array.Perm.refl _⟩
    · rw [if_neg c2]
      have e : m = 1 := by omega
      subst e
      unfold kas_descPart
      rw [run_bind]
      obtain ⟨m', e1, e2, e3, e4⟩ := run_desc h (n - (1 + 1)) 2 (by omega) (by omega) fun t h1 h2 => by
        have : t = 1 := by omega
        rw [this]
        exact a4 (by omega)
      rw [e1, if_neg (by show ¬ 0 > 0; omega)]
      exact run_tail3 (m := m') h (by omega) e3 e4
theorem run_place {p : Array Nat} (h : Ok r n p) {k : Nat} (hk : k < n) (u : Up r p k) : ∀ f a b, a ≤ b → b ≤ k → b - a ≤ f → (∀ t, t < a → r (p.getD t 0) < r (p.getD k 0)) → (∀ t, b ≤ t → t < k → r (p.getD k 0) < r (p.getD t 0)) →
    run r (kas_place p k f a b) ≤ k ∧ (∀ t, t < run r (kas_place p k f a b) → r (p.getD t 0) < r (p.getD k 0)) ∧ (∀ t, run r (kas_place p k f a b) ≤ t → t < k → r (p.getD k 0) < r (p.getD t 0))
  | 0, a, b, h1, h2, h3, l, g => ⟨by show a ≤ k; omega, l, fun t (ht : a ≤ t) hk => g t (by omega) hk⟩
  | f + 1, a, b, h1, h2, h3, l, g => by
    unfold kas_place
    by_cases c : a ≥ b
    · rw [if_pos c]
      exact ⟨by show a ≤ k; omega, l, fun t (ht : a ≤ t) hk => g t (by omega) hk⟩
    · rw [if_neg c]
      unfold run
      by_cases c2 : r (p.getD k 0) < r (p.getD ((a + b) / 2) 0)
      · rw [decide_eq_true c2]; dsimp only; rw [if_pos rfl]
        refine run_place h hk u f a _ (by omega) (by omega) (by omega) l fun t ht htk => ?_
        by_cases e : t = (a + b) / 2
        · rw [e]; exact c2
        · exact Nat.lt_trans c2 (u.lt' (by omega) htk)
      · rw [decide_eq_false c2]; dsimp only; rw [if_neg (by decide)]
        have hne : r (p.getD ((a + b) / 2) 0) < r (p.getD k 0) := by
          rcases Nat.lt_or_ge (r (p.getD ((a + b) / 2) 0)) (r (p.getD k 0)) with q | q
          · exact q
          · have := h.inj ((a + b) / 2) k (by omega) hk (by omega)
            omega
        refine run_place h hk u f _ b (by omega) h2 (by omega) (fun t ht => ?_) g
        by_cases e : t = (a + b) / 2
        · rw [e]; exact hne
        · exact Nat.lt_trans (u.lt' (show t < (a + b) / 2 by omega) (by omega)) hne
theorem run_bin : ∀ (f : Nat) (p : Array Nat) (k : Nat), Ok r n p → 1 ≤ k → k + f = n → Up r p k → ∃ p', run r (kas_bin f p k) = p' ∧ Ok r n p' ∧ Up r p' n ∧ p'.Perm p
  | 0, p, k, h, _, e, u => ⟨p, rfl, h, by have : k = n := (by omega); rw [← this]; exact u, Array.Perm.refl _⟩
  | f + 1, p, k, h, h1, e, u => by
    unfold kas_bin
    rw [run_bind]
    obtain ⟨b1, b2, b3⟩ := run_place h (show k < n by omega) u k 0 k (Nat.zero_le _) (Nat.le_refl _) (by omega) (fun t ht => by omega) fun t h1 h2 => by omega
    generalize run r (kas_place p k k 0 k) = l at *
    obtain ⟨h', g⟩ := h.bub (show k < n by omega) b1
    obtain ⟨p', e1, e2, e3, e4⟩ := run_bin f (bubble p k (k - l)) (k + 1) h' (by omega) (by omega) fun t ht1 ht2 => by
      rw [g, g]
      by_cases c1 : t < l
      · rw [if_neg (by omega), if_neg (by omega), if_neg (by omega), if_neg (by omega)]
        exact u t ht1 (by omega)
      · by_cases c2 : t = l
        · rw [if_neg (by omega), if_neg (by omega), if_pos c2]
          exact b2 _ (by omega)
        · by_cases c3 : t - 1 = l
          · rw [if_pos c3, if_neg c2, if_pos (by omega)]
            exact b3 _ (by omega) (by omega)
          · rw [if_neg c3, if_pos (by omega), if_neg c2, if_pos (by omega)]
            exact u (t - 1) (by omega) (by omega)
    exact ⟨p', e1, e2, e3, e4.trans (bubble_perm _ _ _)⟩
/-- the sort puts the ranks in order -/
theorem run_sort (hn : 1 ≤ n) (inj : ∀ a b, a < n → b < n → r a = r b → a = b) : ∃ p, run r (kas_sort n) = p ∧ p.size = n ∧ Up r p n ∧ p.Perm (List.range n).toArray := by
  have h0 : Ok r n (List.range n).toArray := ⟨by simp, fun a b ha hb e => by
    have ea : (List.range n).toArray.getD a 0 = a := by simp [Array.getD, ha]
    have eb : (List.range n).toArray.getD b 0 = b := by simp [Array.getD, hb]
    rw [ea, eb] at e
    exact inj a b ha hb e⟩
  unfold kas_sort
  rw [run_bind]
  obtain ⟨m, p, e, m1, m2, h, u, pm⟩ := run_count h0 hn
  rw [e]
  dsimp only
  by_cases c : m < n
  · rw [if_pos c]
    obtain ⟨p', e1, e2, e3, e4⟩ := run_bin (n - max m 1) p (max m 1) h (by omega) (by omega) (by rw [Nat.max_eq_left m1]; exact u)
    exact ⟨p', e1, e2.size, e3, e4.trans pm⟩
  · rw [if_neg c]
    have : m = n := by omega
    subst this
    exact ⟨p, rfl, h.size, u, pm⟩
end
end TB

namespace L2
open PySem PySem.Spec PyProof.Rows

/-- a key: an int or a str -/
abbrev Key := Sum Int Str
def keyIs : Key → Value → Bool
  | .inl k, v => Value.isInt k v
  | .inr x, v => Value.isStrOf x v
def keyH (w : World) : Key → Int
  | .inl k => hashInt k
  | .inr x => hashStr w x
theorem keyIs_shape : ∀ {k : Key} {v : Value}, keyIs k v = true → (∃ i t, k = Sum.inl i ∧ v = Value.int i t) ∨ (∃ x t, k = Sum.inr x ∧ v = Value.str x t)
  | .inl i, v, h => by
    obtain ⟨t, e⟩ := Value.isInt_shape (k := i) (v := v) h
    exact .inl ⟨i, t, rfl, e⟩
  | .inr x, v, h => by
    obtain ⟨t, e⟩ := Value.isStrOf_shape (x := x) (v := v) h
    exact .inr ⟨x, t, rfl, e⟩
theorem key_ll (a b : Int) : decide ((Sum.inl a : Key) = Sum.inl b) = (a == b) := by
  by_cases e : a = b
  · subst e; simp
  · have h : ¬ (Sum.inl a : Key) = Sum.inl b := fun q => e (Sum.inl.inj q)
    rw [decide_eq_false h]
    exact (beq_eq_false_iff_ne.mpr e).symm
theorem key_rr (a b : Str) : decide ((Sum.inr a : Key) = Sum.inr b) = decide (a = b) := by
  by_cases e : a = b
  · subst e; simp
  · have h : ¬ (Sum.inr a : Key) = Sum.inr b := fun q => e (Sum.inr.inj q)
    rw [decide_eq_false h, decide_eq_false e]
theorem key_lr (a : Int) (b : Str) : decide ((Sum.inl a : Key) = Sum.inr b) = false := decide_eq_false (fun q => nomatch q)
theorem key_rl (a : Str) (b : Int) : decide ((Sum.inr a : Key) = Sum.inl b) = false := decide_eq_false (fun q => nomatch q)

def mixKind (prog : Program) (w : World) : PySem.KeyKind prog w Key where
  is := keyIs
  hash := keyH w
  inj := fun v a b ha hb => by
    rcases keyIs_shape ha with ⟨i, t, rfl, rfl⟩ | ⟨x, t, rfl, rfl⟩
    · rcases keyIs_shape hb with ⟨j, u, rfl, e⟩ | ⟨y, u, rfl, e⟩
      · injection e with e1 _; rw [e1]
      · exact nomatch e
    · rcases keyIs_shape hb with ⟨j, u, rfl, e⟩ | ⟨y, u, rfl, e⟩
      · exact nomatch e
      · injection e with e1 _; rw [e1]
  byValue := fun k v h => by
    rcases keyIs_shape h with ⟨i, t, rfl, rfl⟩ | ⟨x, t, rfl, rfl⟩ <;> rfl
  pyHash := fun hv h => by
    rcases keyIs_shape hv with ⟨i, t, rfl, rfl⟩ | ⟨x, t, rfl, rfl⟩
    · exact wpAny_pyHash_int h
    · exact wpAny_pyHash_str h
  eqBool := fun hu hv h => by
    rcases keyIs_shape hu with ⟨i, t, rfl, rfl⟩ | ⟨x, t, rfl, rfl⟩
    · rcases keyIs_shape hv with ⟨j, u, rfl, rfl⟩ | ⟨y, u, rfl, rfl⟩
      · rw [key_ll] at h; exact wpAny_eqBool_int h
      · rw [key_lr] at h; exact SeqAt.EqAt.int_str i t y u _ _ _ _ h
    · rcases keyIs_shape hv with ⟨j, u, rfl, rfl⟩ | ⟨y, u, rfl, rfl⟩
      · rw [key_rl] at h; exact SeqAt.EqAt.str_int x t j u _ _ _ _ h
      · rw [key_rr] at h; exact wpAny_eqBool_str h
  «strs» := fun k x t v h => by
    rcases keyIs_shape h with ⟨i, u, rfl, e⟩ | ⟨y, u, rfl, e⟩
    · exact nomatch e
    · injection e with e1 _
      subst e1
      cases v <;> rfl

end L2

namespace L2
open PySem PySem.Spec PyProof.Rows

/-- a value, without the heap -/
inductive V where
  | non | bl (b : Bool) | int (i : Int) | str (x : Str) | byt (b : Array UInt8) | flt (b : UInt64) | ref (a : Addr) | ty (n : String)
  deriving DecidableEq

def RelV : V → Value → Prop
  | .non, u => u = Value.none
  | .bl b, u => u = Value.bool b
  | .int i, u => ∃ t, u = Value.int i t
  | .str x, u => ∃ t, u = Value.str x t
  | .byt b, u => ∃ t, u = Value.bytes b t
  | .flt b, u => ∃ t, u = Value.float b t
  | .ref a, u => u = Value.ref a
  | .ty n, u => u = Value.type n

abbrev Vals : List V → List Value → Prop := Paired RelV
theorem Vals.length {xs : List V} {us : List Value} (r : Vals xs us) : xs.length = us.length := Paired.length r
theorem Vals.get : ∀ {xs : List V} {us : List Value} {i : Nat} {x : V}, Vals xs us → xs[i]? = some x → ∃ u, us[i]? = some u ∧ RelV x u
  | _, _, _, _, .nil, e => by simp at e
  | _, _, 0, _, .cons r _, e => by simp at e; subst e; exact ⟨_, rfl, r⟩
  | _, _, i + 1, x, .cons _ t, e => by
    obtain ⟨u, h1, h2⟩ := Vals.get (i := i) (x := x) t (by simpa using e)
    exact ⟨u, by simpa using h1, h2⟩
theorem Vals.append : ∀ {xs ys : List V} {us ws : List Value}, Vals xs us → Vals ys ws → Vals (xs ++ ys) (us ++ ws)
  | _, _, _, _, .nil, s => s
  | _, _, _, _, .cons r t, s => .cons r (Vals.append t s)
def RelO : Option V → Option Value → Prop
  | some v, some u => RelV v u
  | none, none => True
  | _, _ => False
def KV {κ : Type} : List (κ × V) → List (κ × Value) → Prop := Paired fun (p : κ × V) (q : κ × Value) => p.1 = q.1 ∧ RelV p.2 q.2

/-- a key of a dict (00_mix): an int or a text -/
def kV : Key → V
  | .inl i => .int i
  | .inr x => .str x

/-- what stands at a tracked address -/
inductive HO where
  /-- a list -/
  | lst (xs : List V)
  /-- a tuple (never changes) -/
  | tup (xs : List V)
  /-- a dict whose keys are ints and texts; one whose keys are tuples of ints and texts (the empty one is both) -/
  | dK (kvs : List (Key × V)) | dT (kvs : List (List Key × V))
  /-- a set of ints: its members, its size -/
  | set (S : Int → Bool) (n : Nat)
  /-- an instance of the class at C, its dict at dx, its attributes -/
  | ins (C dx : Addr) (fs : List (Str × V))
  /-- the dict of the instance at x -/
  | own (x : Addr)
  /-- the dict of an exception -/
  | xd (fs : List (Str × V))
  /-- a bound method, f of x -/
  | met (f x : Addr)
  /-- a range object lo, lo + 1, .. below hi -/
  | rng (lo hi : Int)
  /-- a thing that is known to the object (the script; a dict while a loop walks it): read, never written while it is so -/
  | frz (o : Obj) (u : HO)
  /-- a code object's table -/
  | tbl (ps : Array Value)
  /-- any other thing, by what is true of its one object (a def of one's own: SetO a S n := HO.ext fun h => ..) -/
  | ext (φ : Heap → Prop)

abbrev Hp := Addr → Option HO
def upd (H : Hp) (a : Addr) (o : HO) : Hp := fun b => if b = a then some o else H b
theorem upd_same {H : Hp} {a : Addr} {o : HO} : upd H a o a = some o := by unfold upd; rw [if_pos rfl]
theorem upd_ne {H : Hp} {a b : Addr} {o : HO} (h : b ≠ a) : upd H a o b = H b := by unfold upd; rw [if_neg h]
theorem ne_of_none {H : Hp} {a b : Addr} {o : HO} (h : H a = some o) (h' : H b = none) : a ≠ b := by
  intro e; subst e; rw [h] at h'; cases h'

section
variable (P : Program) (w : World)
def ObjOk (H : Hp) (h : Heap) (a : Addr) : HO → Prop
  | .lst xs => xs.length ≤ sizeLine ∧ ∃ (its : List Value) (n : Nat), Vals xs its ∧ h.get? a = some { cls := .type "list", data := .seq its.toArray n }
  | .tup xs => xs.length ≤ sizeLine ∧ ∃ its : List Value, Vals xs its ∧ IsTup h a its.toArray
  | .dK kvs => kvs.length ≤ sizeLine ∧ (a == sysModules) = false ∧ ∃ vs, KV kvs vs ∧ h.DictOf (mixKind P w) a vs
  | .dT kvs => kvs.length ≤ sizeLine ∧ (a == sysModules) = false ∧ ∃ xs : List (List Key × Addr × Value),
      Paired (fun (p : List Key × V) (q : List Key × Addr × Value) => p.1 = q.1 ∧ H q.2.1 = some (.tup (p.1.map kV)) ∧ RelV p.2 q.2.2) kvs xs ∧
      ∃ o es ep, h.get? a = some o ∧ o.ExactDict ∧ o.data = .dict es ep ∧ es.toList = xs.map (entryOfKey (tupleKind (mixKind P w))) ∧ (xs.map (·.1)).Nodup
  | .set S n => h.SetOf (intKind P w) a S n
  | .ins C dx fs => H dx = some (.own a) ∧ fs.length ≤ 1000 ∧ dx ≠ a ∧ h.get? a = some (PySem.W.instObj C dx) ∧
      ∃ mA, h.Ns1 dx mA ∧ (∀ f, RelO (fs.lookup f) (mA f)) ∧ PySem.Within mA (fs.map (·.1))
  | .own _ => ∃ o, h.get? a = some o
  | .xd fs => ∃ mA, h.Ns1 a mA ∧ ∀ f, RelO (fs.lookup f) (mA f)
  | .rng lo hi => ∃ t u v, h.get? a = some { cls := .type "range", data := .fields #[.int lo t, .int hi u, .int 1 v] }
  | .frz o u => h.get? a = some o ∧ ObjOk H h a u
  | .tbl ps => h.get? a = some { cls := .none, data := .fields ps }
  | .met f x => h.get? a = some (PySem.W.methodObj (.ref f) (.ref x))
  | .ext φ => φ h ∧ (∃ o, h.get? a = some o) ∧ ∀ h1 h2 : Heap, φ h1 → (∀ o, h1.get? a = some o → h2.get? a = some o) → φ h2
/-- the abstract heap is held -/
def HOk (H : Hp) (h : Heap) : Prop := ∀ a o, H a = some o → ObjOk P w H h a o
end

section
variable {P : Program} {w : World} {H H' : Hp} {h h' : Heap} {a : Addr} {o : HO}
theorem ObjOk.lt (x : ObjOk P w H h a o) : a < h.objs.size := by
  cases o with
  | lst xs => obtain ⟨_, _, _, _, e⟩ := x; exact Heap.lt_size e
  | tup xs => obtain ⟨_, _, _, p⟩ := x; exact p.lt
  | dK kvs => obtain ⟨_, _, _, _, o, _, _, e, _⟩ := x; exact Heap.lt_size e
  | dT kvs => obtain ⟨_, _, _, _, o, _, _, e, _⟩ := x; exact Heap.lt_size e
  | set S n => obtain ⟨o, _, _, _, e, _⟩ := x; exact Heap.lt_size e
  | ins C dx fs => obtain ⟨_, _, _, e, _⟩ := x; exact Heap.lt_size e
  | own y => obtain ⟨_, e⟩ := x; exact Heap.lt_size e
  | xd fs => obtain ⟨_, ⟨_, _, _, e, _⟩, _⟩ := x; exact Heap.lt_size e
  | rng lo hi => obtain ⟨_, _, _, e⟩ := x; exact Heap.lt_size e
  | frz ob u => obtain ⟨e, _⟩ := x; exact Heap.lt_size e
  | tbl ps => exact Heap.lt_size (show h.get? a = some _ from x)
  | met f y => exact Heap.lt_size (show h.get? a = some _ from x)
  | ext φ => obtain ⟨_, ⟨_, e⟩, _⟩ := x; exact Heap.lt_size e
theorem Paired.mapP {α β : Type} {F G : α → β → Prop} : ∀ {l₁ : List α} {l₂ : List β}, Paired F l₁ l₂ → (∀ a b, F a b → G a b) → Paired G l₁ l₂
  | _, _, .nil, _ => .nil
  | _, _, .cons r t, f => .cons (f _ _ r) (Paired.mapP t f)
/-- what an object's description leans on: its own object, its own dict, the tuples -/
theorem ObjOk.stay (x : ObjOk P w H h a o) (k : ∀ b u, (b = a ∨ H b = some (.own a)) → h.get? b = some u → h'.get? b = some u)
    (ho : ∀ b, H b = some (.own a) → H' b = some (.own a)) (ht : ∀ b xs, H b = some (.tup xs) → H' b = some (.tup xs)) : ObjOk P w H' h' a o := by
  induction o with
  | lst xs => obtain ⟨z, its, n, r, e⟩ := x; exact ⟨z, its, n, r, k _ _ (.inl rfl) e⟩
  | tup xs => obtain ⟨z, its, r, ob, e, c⟩ := x; exact ⟨z, its, r, ob, k _ _ (.inl rfl) e, c⟩
  | dK kvs => obtain ⟨z, y, vs, r, ob, es, ep, e, c⟩ := x; exact ⟨z, y, vs, r, ob, es, ep, k _ _ (.inl rfl) e, c⟩
  | dT kvs =>
    obtain ⟨z, y, xs, r, ob, es, ep, e, c⟩ := x
    exact ⟨z, y, xs, Paired.mapP r fun p q z => ⟨z.1, ht _ _ z.2.1, z.2.2⟩, ob, es, ep, k _ _ (.inl rfl) e, c⟩
  | set S n => obtain ⟨ob, es, ep, t, e, c⟩ := x; exact ⟨ob, es, ep, t, k _ _ (.inl rfl) e, c⟩
  | ins C dx fs =>
    obtain ⟨d, z, ne, e, mA, ⟨od, es, ep, e2, c⟩, r⟩ := x
    exact ⟨ho _ d, z, ne, k _ _ (.inl rfl) e, mA, ⟨od, es, ep, k _ _ (.inr d) e2, c⟩, r⟩
  | own y => obtain ⟨ob, e⟩ := x; exact ⟨ob, k _ _ (.inl rfl) e⟩
  | xd fs => obtain ⟨mA, ⟨od, es, ep, e, c⟩, r⟩ := x; exact ⟨mA, ⟨od, es, ep, k _ _ (.inl rfl) e, c⟩, r⟩
  | rng lo hi => obtain ⟨t, u, v, e⟩ := x; exact ⟨t, u, v, k _ _ (.inl rfl) e⟩
  | frz ob u ih => obtain ⟨e, q⟩ := x; exact ⟨k _ _ (.inl rfl) e, ih q⟩
  | tbl ps =>
    have e : h.get? a = some { cls := .none, data := .fields ps } := x
    show h'.get? a = some { cls := .none, data := .fields ps }
    exact k a _ (.inl rfl) e
  | met f y =>
    have e : h.get? a = some (PySem.W.methodObj (.ref f) (.ref y)) := x
    show h'.get? a = some (PySem.W.methodObj (.ref f) (.ref y))
    exact k a _ (.inl rfl) e
  | ext φ => obtain ⟨p, ⟨o, e⟩, st⟩ := x; exact ⟨st _ _ p fun o q => k _ _ (.inl rfl) q, ⟨o, k _ _ (.inl rfl) e⟩, st⟩
theorem HOk.lt (x : HOk P w H h) (e : H a = some o) : a < h.objs.size := (x a o e).lt
theorem HOk.fresh (x : HOk P w H h) (e : h.objs.size ≤ a) : H a = none := by
  cases q : H a with
  | none => rfl
  | some u => exact absurd (Nat.lt_of_lt_of_le (x.lt q) e) (Nat.lt_irrefl _)
/-- every object of the heap is kept -/
theorem HOk.kept (x : HOk P w H h) (k : ∀ b u, h.get? b = some u → h'.get? b = some u) : HOk P w H h' := fun a o e =>
  (x a o e).stay (fun b u _ q => k b u q) (fun _ q => q) fun _ _ q => q
/-- a new object is laid and tracked -/
theorem HOk.laid (x : HOk P w H h) (k : ∀ b u, h.get? b = some u → h'.get? b = some u) (hp : h.objs.size ≤ a) (new : ObjOk P w (upd H a o) h' a o) : HOk P w (upd H a o) h' := fun b u e => by
  have hn := x.fresh hp
  by_cases hb : b = a
  · subst hb; rw [upd_same] at e; cases e; exact new
  · rw [upd_ne hb] at e
    exact (x b u e).stay (fun c v _ q => k c v q) (fun c q => by rw [upd_ne (ne_of_none q hn)]; exact q) fun c xs q => by rw [upd_ne (ne_of_none q hn)]; exact q
end

/-- what may be read as u: it is u, or a known u -/
def Rd (H : Hp) (a : Addr) (u : HO) : Prop := H a = some u ∨ ∃ o, H a = some (.frz o u)
theorem Rd.ok {P : Program} {w : World} {H : Hp} {h : Heap} {a : Addr} {u : HO} (r : Rd H a u) (x : HOk P w H h) : ObjOk P w H h a u := by
  rcases r with r | ⟨o, r⟩
  · exact x a u r
  · obtain ⟨_, q⟩ := x a _ r
    exact q
/-- what may be written -/
def Mut : Option HO → Prop
  | some (.lst _) => True
  | some (.dK _) => True
  | some (.dT _) => True
  | some (.set _ _) => True
  | some (.ins _ _ _) => True
  | some (.ext _) => True
  | _ => False
section
variable {P : Program} {w : World} {H : Hp} {h h' : Heap} {x e : Addr} {o' : HO}
/-- the object at e is changed: x itself, or the dict of the instance x -/
theorem HOk.write (ok : HOk P w H h) (mu : Mut (H x)) (he : e = x ∨ H e = some (.own x)) (k : ∀ b u, b ≠ e → h.get? b = some u → h'.get? b = some u) (heo : ∃ u, h'.get? e = some u)
    (new : ObjOk P w (upd H x o') h' x o') : HOk P w (upd H x o') h' := fun b u q => by
  have nown : ∀ c y, H c = some (.own y) → c ≠ x := fun c y r z => by subst z; rw [r] at mu; exact mu
  have ntup : ∀ c xs, H c = some (.tup xs) → c ≠ x := fun c xs r z => by subst z; rw [r] at mu; exact mu
  by_cases hb : b = x
  · subst hb; rw [upd_same] at q; cases q; exact new
  · rw [upd_ne hb] at q
    by_cases hbe : b = e
    · have q' : H b = some (.own x) := by
        rcases he with z | z
        · exact absurd (hbe.trans z) hb
        · rw [hbe]; exact z
      rw [q] at q'; cases q'
      obtain ⟨v, hv⟩ := heo
      exact ⟨v, by rw [hbe]; exact hv⟩
    · refine (ok b u q).stay (fun c v hc r => k c v ?_ r) (fun c r => by rw [upd_ne (nown c b r)]; exact r) fun c xs r => by rw [upd_ne (ntup c xs r)]; exact r
      rcases hc with rfl | hc
      · exact hbe
      · rintro rfl
        rcases he with z | z
        · exact nown c b hc z
        · rw [hc] at z; cases z; exact hb rfl
end

structure Un (fs ex : List Addr) (H H' : Hp) (h h' : Heap) : Prop where
  keep : ∀ b o, h.get? b = some o → H b = none → b ∉ fs → b ∉ ex → h'.get? b = some o
  slot : ∀ b o, h.get? b = some o → H b = none → b ∈ fs → b ∉ ex → ∃ sl, h'.get? b = some { o with slots := sl }
  free : ∀ b o, h.get? b = some o → H b = none → b ∉ ex → H' b = none
  there : ∀ b o, h.get? b = some o → b ∉ ex → ∃ o', h'.get? b = some o'
  tups : ∀ b xs, H b = some (.tup xs) → H' b = some (.tup xs)
  frzs : ∀ b o u, H b = some (.frz o u) → H' b = some (.frz o u)
  tbls : ∀ b ps, H b = some (.tbl ps) → ∃ more, H' b = some (.tbl (ps ++ more))
section
variable {fs fs' ex ex' : List Addr} {H H1 H2 : Hp} {h h1 h2 h' : Heap} {a x e : Addr} {o : HO}
theorem Un.any (u : Un fs ex H H1 h h1) {b : Addr} {ob : Obj} (q : h.get? b = some ob) (n : H b = none) (hx : b ∉ ex) : ∃ sl, h1.get? b = some { ob with slots := sl } := by
  by_cases hb : b ∈ fs
  · exact u.slot b ob q n hb hx
  · exact ⟨ob.slots, u.keep b ob q n hb hx⟩
theorem Un.kept (k : ∀ b u, h.get? b = some u → h'.get? b = some u) : Un fs ex H H h h' :=
  ⟨fun b ob q _ _ _ => k b ob q, fun b ob q _ _ _ => ⟨ob.slots, k b ob q⟩, fun _ _ _ n _ => n, fun b ob q _ => ⟨ob, k b ob q⟩, fun _ _ q => q, fun _ _ _ q => q, fun _ ps q => ⟨#[], by rw [q]; simp⟩⟩
theorem Un.refl : Un fs ex H H h h := Un.kept fun _ _ q => q
theorem Un.laid (k : ∀ b u, h.get? b = some u → h'.get? b = some u) (hp : h.objs.size ≤ a) (hn : H a = none) : Un fs ex H (upd H a o) h h' where
  keep := fun b u q _ _ _ => k b u q
  slot := fun b u q _ _ _ => ⟨u.slots, k b u q⟩
  free := fun b u q n _ => by rw [upd_ne (Nat.ne_of_lt (Nat.lt_of_lt_of_le (Heap.lt_size q) hp))]; exact n
  there := fun b u q _ => ⟨u, k b u q⟩
  tups := fun b xs q => by rw [upd_ne (ne_of_none q hn)]; exact q
  frzs := fun b u xs q => by rw [upd_ne (ne_of_none q hn)]; exact q
  tbls := fun b ps q => ⟨#[], by rw [upd_ne (ne_of_none q hn), q]; simp⟩
theorem Un.write (mu : Mut (H x)) (he : e = x ∨ H e = some (.own x)) (k : ∀ b u, b ≠ e → h.get? b = some u → h'.get? b = some u) (heo : ∃ u, h'.get? e = some u) : Un fs ex H (upd H x o) h h' := by
  have hx : ∀ b, H b = none → b ≠ x := fun b n z => by subst z; rw [n] at mu; exact mu
  have hb : ∀ b, H b = none → b ≠ e := fun b n z => by
    subst z
    rcases he with r | r
    · exact hx b n r
    · rw [n] at r; cases r
  have hm : ∀ b u, H b = some u → ¬ Mut (some u) → b ≠ x := fun b u q nm z => by subst z; rw [q] at mu; exact nm mu
  refine ⟨fun b u q n _ _ => k b u (hb b n) q, fun b u q n _ _ => ⟨u.slots, k b u (hb b n) q⟩, fun b u q n _ => by rw [upd_ne (hx b n)]; exact n, fun b u q _ => ?_,
    fun b xs q => by rw [upd_ne (hm b _ q fun z => z)]; exact q, fun b u xs q => by rw [upd_ne (hm b _ q fun z => z)]; exact q, fun b ps q => ⟨#[], by rw [upd_ne (hm b _ q fun z => z), q]; simp⟩⟩
  by_cases hbe : b = e
  · subst hbe; exact heo
  · exact ⟨u, k b u hbe q⟩
end

def trk (h : Heap) (H : Hp) : List Addr := (List.range h.objs.size).filter fun a => (H a).isSome
def hidT (h : Heap) (H : Hp) : Heap := PySem.W.hideAll h (trk h H)
theorem hidT_size (h : Heap) (H : Hp) : (hidT h H).objs.size = h.objs.size := PySem.W.hideAll_size _ _
theorem hidT_get {h : Heap} {H : Hp} {b : Addr} {o : Obj} (e : h.get? b = some o) (n : H b = none) : (hidT h H).get? b = some o :=
  PySem.W.hideAll_get _ e fun hm => by
    have q : (H b).isSome = true := (List.mem_filter.mp hm).2
    rw [n] at q; simp at q
theorem of_hidT {h : Heap} {H : Hp} {b : Addr} {o : Obj} (e : (hidT h H).get? b = some o) : h.get? b = some o ∧ H b = none := by
  have e' : h.get? b = some o := PySem.W.of_hideAll (trk h H) e
  refine ⟨e', ?_⟩
  cases q : H b with
  | none => rfl
  | some x =>
    have hm : b ∈ trk h H := List.mem_filter.mpr ⟨List.mem_range.mpr (Heap.lt_size e'), by simp [q]⟩
    have z : (hidT h H).get? b = none := PySem.W.hideAll_none (trk h H) hm
    rw [z] at e; cases e

end L2

namespace L2
open PySem PySem.Spec PyProof.Rows

/-- the module's facts, over the base: the heap at the law's entry without what is tracked there -/
structure Mod (K : PySem.W.Frag) (mg : Str → Option Value) (base : Heap) : Prop where
  kin : K.In base
  glob : base.Ns mainGlobals mg
  blt : ∃ mb, base.Ns builtinsNs mb ∧ ∀ x : Str, x ≠ "__name__" → mb x = bootBuiltins x
  nolimit : base.NoLimit

/-- the context: a def's body (or a comprehension's block) running. base: fixed through the whole law; s₀, H₀: the entry; outer: the frames whose slots others may change (a def's callers); stack: all frames that run;
   ex: iterators that were made ahead of the entry and are walked here (a comprehension's); fn: the names whose cells were made at the entry (a def: all; a comprehension's block: its own); calm: not within an except suite; pn: pins that every state bears; xe: what is wanted of an exception that leaves the code -/
structure Cx where
  prog : Program
  w : World
  K : PySem.W.Frag
  mg : Str → Option Value
  base : Heap
  A : Around
  N : List Str
  s₀ : Shared
  H₀ : Hp
  env : Env
  outer : List Env
  stack : List Env
  ex : List Addr
  fn : Str → Bool
  calm : Bool
  pn : List (Addr × Obj)
  xe : Value → Shared → Prop
/-- the callers' frames -/
def frs (l : List Env) : List Addr := l.filterMap (·.frame)
abbrev Cx.fs (X : Cx) : List Addr := frs X.outer

def Vis (sc : Scope) (x : Str) : Prop := sc.names.lookup x = some .local ∨ sc.names.lookup x = some .cell ∨ sc.names.lookup x = some .free
def Loc (sc : Scope) (x : Str) : Prop := sc.names.lookup x = some .local ∨ sc.names.lookup x = some .cell
def Look (env : Env) (h : Heap) (m : Str → Option Value) (x : Str) (u : Value) : Prop :=
  (env.kindOf x = some .local ∧ m x = some u) ∨ ((env.kindOf x = some .cell ∨ env.kindOf x = some .free) ∧ ∃ c, env.cells.lookup x = some c ∧ h.IsCell c (some u))

structure Cx.Ok (X : Cx) : Prop where
  mod : Mod X.K X.mg X.base
  kind : X.env.scope.kind = .function
  glob : X.env.globals = mainGlobals
  blt : X.env.builtins = builtinsNs
  above : X.s₀.heap.objs.size ≤ X.env.locals
  inj : ∀ x y c, X.env.cells.lookup x = some c → X.env.cells.lookup y = some c → x = y
  has : ∀ x, (X.env.kindOf x = some .cell ∨ X.env.kindOf x = some .free) → ∃ c, X.env.cells.lookup x = some c
  cab : ∀ x c, X.fn x = true → X.env.cells.lookup x = some c → X.s₀.heap.objs.size ≤ c
  hd : X.calm = true → X.A.handled = none
  frames : X.A.frames = some X.stack
  stk : X.stack = X.outer ∨ (X.stack = X.env :: X.outer ∧ X.env.frame = some X.env.locals)
  exf : ∀ b ∈ X.ex, b ≠ X.env.locals ∧ ∀ x c, X.env.cells.lookup x = some c → c ≠ b
  bs : ∀ b o, X.base.get? b = some o → X.s₀.heap.get? b = some o ∧ X.H₀ b = none
  bsz : X.base.objs.size ≤ X.s₀.heap.objs.size
  noex : ∀ b o, X.base.get? b = some o → b ∉ X.ex
  exfs : ∀ b ∈ X.ex, b ∉ X.fs
  funs : X.s₀.heap.FunFrames X.base X.outer
  frf : ∀ b ∈ X.fs, X.H₀ b = none

structure Inv (X : Cx) (pins : List (Addr × Obj)) (σ : List (Option V)) (H : Hp) (s : Shared) : Prop where
  ok : X.Ok
  os : s.os = X.s₀.os
  bare : AllBare s.gens
  base : Un X.fs X.ex X.H₀ H X.s₀.heap s.heap
  loc : ∃ m, s.heap.Ns X.env.locals m ∧ ∀ (i : Nat) (x : Str) (v : V), X.N[i]? = some x → σ[i]? = some (some v) → Vis X.env.scope x → ∃ u, RelV v u ∧ Look X.env s.heap m x u
  cell : ∀ x c, X.env.cells.lookup x = some c → ∃ v, s.heap.IsCell c v
  free : H X.env.locals = none
  freeC : ∀ x c, X.env.cells.lookup x = some c → H c = none
  pin : ∀ p ∈ X.pn ++ pins, s.heap.get? p.1 = some p.2 ∧ H p.1 = none ∧ p.1 ≠ X.env.locals ∧ p.1 ∉ X.fs ∧ ∀ v, p.2.data ≠ .cell v
  hok : HOk X.prog X.w H s.heap
  len : σ.length = X.N.length

section
variable {X : Cx} {pins : List (Addr × Obj)} {σ : List (Option V)} {H H' : Hp} {s : Shared} {h' : Heap}

theorem Cx.Ok.nofr (ok : X.Ok) {b : Addr} {o : Obj} (e : X.base.get? b = some o) : b ∉ X.fs := fun hb => by
  have := (ok.funs.mem hb).1
  rw [e] at this; cases this
theorem Inv.bs (I : Inv X pins σ H s) : ∀ b o, X.base.get? b = some o → s.heap.get? b = some o ∧ H b = none := fun b o e =>
  ⟨I.base.keep b o (I.ok.bs b o e).1 (I.ok.bs b o e).2 (I.ok.nofr e) (I.ok.noex b o e), I.base.free b o (I.ok.bs b o e).1 (I.ok.bs b o e).2 (I.ok.noex b o e)⟩
theorem Inv.bk (I : Inv X pins σ H s) : ∀ b o, X.base.get? b = some o → s.heap.get? b = some o := fun b o e => (I.bs b o e).1
theorem Inv.mod (I : Inv X pins σ H s) : Mod X.K X.mg X.base := I.ok.mod
theorem Inv.kIn (I : Inv X pins σ H s) : X.K.In s.heap := I.ok.mod.kin.keeps I.bk
/-- the frame over the base: for OpenK's rules (K.In X.base is I.mod.kin) -/
theorem Inv.fr (I : Inv X pins σ H s) : ∃ m, Fr X.base X.env.locals s.heap m :=
  let ⟨m, hn, _⟩ := I.loc
  ⟨m, hn, I.bk, Nat.le_trans I.ok.bsz I.ok.above⟩
theorem Inv.lt (I : Inv X pins σ H s) : X.env.locals < s.heap.objs.size := let ⟨_, hn, _⟩ := I.loc; hn.lt
theorem Inv.sz (I : Inv X pins σ H s) : X.s₀.heap.objs.size ≤ s.heap.objs.size := Nat.le_trans I.ok.above (Nat.le_of_lt I.lt)
theorem Inv.nofs (I : Inv X pins σ H s) {a : Addr} (h : s.heap.objs.size ≤ a) : a ∉ X.fs := fun hb => by
  obtain ⟨_, o, ho, _⟩ := I.ok.funs.mem hb
  exact absurd (Nat.lt_of_lt_of_le (Heap.lt_size ho) (Nat.le_trans I.sz h)) (Nat.lt_irrefl _)
theorem Inv.cne (I : Inv X pins σ H s) : ∀ x c, X.env.cells.lookup x = some c → c ≠ X.env.locals := fun x c e z => by
  obtain ⟨v, o, ho, hd⟩ := I.cell x c e
  obtain ⟨m, ⟨o', es, ep, ho', hd', _⟩, _⟩ := I.loc
  rw [z, ho'] at ho; cases ho; rw [hd'] at hd; cases hd
theorem Inv.funs (I : Inv X pins σ H s) : s.heap.FunFrames X.base X.outer := by
  have all : ∀ (l : List Env), (∀ b ∈ frs l, b ∈ X.fs) → X.s₀.heap.FunFrames X.base l → s.heap.FunFrames X.base l := by
    intro l
    induction l with
    | nil => intro _ _; trivial
    | cons env r ih =>
      intro hs hl
      obtain ⟨hk, ⟨L, o, hf, hn, ho, hd⟩, hr⟩ := hl
      have hL : L ∈ X.fs := hs L (by unfold frs; rw [List.filterMap_cons, hf]; exact List.mem_cons_self)
      obtain ⟨sl, e⟩ := I.base.slot L o ho (I.ok.frf L hL) hL fun z => I.ok.exfs L z hL
      exact ⟨hk, ⟨L, _, hf, hn, e, hd⟩, ih (fun b hb => hs b (by unfold frs; rw [List.filterMap_cons, hf]; exact List.mem_cons_of_mem _ hb)) hr⟩
  exact all X.outer (fun _ hb => hb) I.ok.funs

/-- the frames that run, for a call -/
theorem Inv.stack (I : Inv X pins σ H s) : s.heap.FunFrames X.base X.stack := by
  rcases I.ok.stk with e | ⟨e, hf⟩
  · rw [e]; exact I.funs
  · rw [e]
    obtain ⟨m, hn, _⟩ := I.loc
    refine .cons (by rw [I.ok.kind]; decide) hf hn ?_ I.funs
    exact Heap.get?_none_of_le (Nat.le_trans I.ok.bsz I.ok.above)
theorem Inv.stkSub (I : Inv X pins σ H s) : ∀ b ∈ frs X.stack, b ∈ X.env.locals :: X.fs := fun b hb => by
  rcases I.ok.stk with e | ⟨e, hf⟩
  · rw [e] at hb; exact List.mem_cons_of_mem _ hb
  · rw [e] at hb
    unfold frs at hb
    rw [List.filterMap_cons, hf] at hb
    exact hb
theorem Inv.stkFree (I : Inv X pins σ H s) : ∀ b ∈ frs X.stack, H b = none := fun b hb => by
  rcases List.mem_cons.mp (I.stkSub b hb) with e | hb
  · rw [e]; exact I.free
  · obtain ⟨_, o, ho, _⟩ := I.ok.funs.mem hb
    exact I.base.free b o ho (I.ok.frf b hb) fun z => I.ok.exfs b z hb

/-- THE STEP: the untracked objects but the frame and the records at ch are kept (the callers' frames up to slots), the frame's map is kept, the new abstract heap is held -/
theorem Inv.step {g' : Array GenState} {t' : Nat} {d' : Drawn} {ch : List Addr} (I : Inv X pins σ H s)
    (hch : ∀ b ∈ ch, (b ∈ X.ex ∨ X.s₀.heap.objs.size ≤ b) ∧ b ≠ X.env.locals ∧ (∀ x c, X.env.cells.lookup x = some c → c ≠ b) ∧ ∀ p ∈ X.pn ++ pins, p.1 ≠ b)
    (keep : ∀ b o, b ≠ X.env.locals → b ∉ X.fs → b ∉ ch → s.heap.get? b = some o → H b = none → h'.get? b = some o)
    (slot : ∀ b o, b ≠ X.env.locals → b ∈ X.fs → b ∉ ch → s.heap.get? b = some o → H b = none → ∃ sl, h'.get? b = some { o with slots := sl }) (free : ∀ b o, b ∉ ch → s.heap.get? b = some o → H b = none → H' b = none)
    (there : ∀ b o, b ∉ ch → s.heap.get? b = some o → ∃ o', h'.get? b = some o')
    (tups : ∀ b xs, H b = some (.tup xs) → H' b = some (.tup xs)) (frzs : ∀ b o u, H b = some (.frz o u) → H' b = some (.frz o u)) (tbls : ∀ b ps, H b = some (.tbl ps) → ∃ more, H' b = some (.tbl (ps ++ more)))
    (ns : ∀ m, s.heap.Ns X.env.locals m → h'.Ns X.env.locals m) (hok : HOk X.prog X.w H' h') (hg : AllBare g') :
    Inv X pins σ H' { s with heap := h', gens := g', drawn := d', toks := t' } := by
  have neL : ∀ b o, X.s₀.heap.get? b = some o → b ≠ X.env.locals := fun b o e => Nat.ne_of_lt (Nat.lt_of_lt_of_le (Heap.lt_size e) I.ok.above)
  have neC : ∀ b o, X.s₀.heap.get? b = some o → b ∉ X.ex → b ∉ ch := fun b o e hx hb => by
    rcases (hch b hb).1 with z | z
    · exact hx z
    · exact absurd (Nat.lt_of_lt_of_le (Heap.lt_size e) z) (Nat.lt_irrefl _)
  have cellK : ∀ x c, X.env.cells.lookup x = some c → ∀ v, s.heap.IsCell c v → h'.IsCell c v := fun x c e v ⟨o, ho, hd⟩ => by
    have nch : c ∉ ch := fun z => (hch c z).2.2.1 x c e rfl
    by_cases hc : c ∈ X.fs
    · obtain ⟨sl, q⟩ := slot c o (I.cne x c e) hc nch ho (I.freeC x c e)
      exact ⟨_, q, hd⟩
    · exact ⟨o, keep c o (I.cne x c e) hc nch ho (I.freeC x c e), hd⟩
  refine ⟨I.ok, I.os, hg, ⟨fun b o e n hb hx => ?_, fun b o e n hb hx => ?_, fun b o e n hx => ?_, fun b o e hx => ?_, fun b xs e => tups b xs (I.base.tups b xs e), fun b o xs e => frzs b o xs (I.base.frzs b o xs e), fun b ps e => ?_⟩, ?_, fun x c e => ?_, ?_, fun x c e => ?_, fun p hp => ?_, hok, I.len⟩
  · exact keep b o (neL b o e) hb (neC b o e hx) (I.base.keep b o e n hb hx) (I.base.free b o e n hx)
  · obtain ⟨sl, e1⟩ := I.base.slot b o e n hb hx
    obtain ⟨sl', e2⟩ := slot b _ (neL b o e) hb (neC b o e hx) e1 (I.base.free b o e n hx)
    exact ⟨sl', e2⟩
  · obtain ⟨o', e1⟩ := I.base.there b o e hx
    exact free b o' (neC b o e hx) e1 (I.base.free b o e n hx)
  · obtain ⟨o', e1⟩ := I.base.there b o e hx
    exact there b o' (neC b o e hx) e1
  · obtain ⟨m1, e1⟩ := I.base.tbls b ps e
    obtain ⟨m2, e2⟩ := tbls b _ e1
    exact ⟨m1 ++ m2, by rw [e2, Array.append_assoc]⟩
  · obtain ⟨m, hn, hl⟩ := I.loc
    refine ⟨m, ns m hn, fun i x v e1 e2 e3 => ?_⟩
    obtain ⟨u, r, l⟩ := hl i x v e1 e2 e3
    refine ⟨u, r, ?_⟩
    rcases l with l | ⟨k, c, e, z⟩
    · exact .inl l
    · exact .inr ⟨k, c, e, cellK x c e _ z⟩
  · obtain ⟨v, z⟩ := I.cell x c e
    exact ⟨v, cellK x c e v z⟩
  · obtain ⟨m, ⟨o, _, _, ho, _⟩, _⟩ := I.loc
    exact free _ o (fun z => (hch _ z).2.1 rfl) ho I.free
  · obtain ⟨v, o, ho, hd⟩ := I.cell x c e
    exact free c o (fun z => (hch c z).2.2.1 x c e rfl) ho (I.freeC x c e)
  · obtain ⟨e, n, ne, nf, d⟩ := I.pin p hp
    have nch : p.1 ∉ ch := fun z => (hch p.1 z).2.2.2 p hp rfl
    exact ⟨keep p.1 p.2 ne nf nch e n, free p.1 p.2 nch e n, ne, nf, d⟩
/-- .. where the frame's own object is kept too -/
theorem Inv.un {t' : Nat} (I : Inv X pins σ H s) (u : Un X.fs [] H H' s.heap h') (hok : HOk X.prog X.w H' h') : Inv X pins σ H' { s with heap := h', toks := t' } := by
  obtain ⟨m, ⟨o, es, ep, ho, r⟩, _⟩ := id I.loc
  obtain ⟨sl, hL⟩ := u.any ho I.free (by simp)
  exact I.step (g' := s.gens) (d' := s.drawn) (ch := []) (fun _ z => nomatch z) (fun b o _ hb _ e n => u.keep b o e n hb (by simp)) (fun b o _ hb _ e n => u.slot b o e n hb (by simp)) (fun b o _ e n => u.free b o e n (by simp)) (fun b o _ e => u.there b o e (by simp)) u.tups u.frzs u.tbls (fun m' hm => by
    obtain ⟨o', es', ep', ho', r'⟩ := hm
    rw [ho] at ho'; cases ho'
    exact ⟨_, es', ep', hL, r'⟩) hok I.bare
/-- behind a call (or a comprehension's block): the slots of this frame may have changed too, the records at ch may have turned -/
theorem Inv.call {g' : Array GenState} {t' : Nat} {d' : Drawn} {ch : List Addr} (I : Inv X pins σ H s) (u : Un (frs X.stack) ch H H' s.heap h') (hok : HOk X.prog X.w H' h') (hg : AllBare g')
    (hch : ∀ b ∈ ch, (b ∈ X.ex ∨ X.s₀.heap.objs.size ≤ b) ∧ b ≠ X.env.locals ∧ (∀ x c, X.env.cells.lookup x = some c → c ≠ b) ∧ ∀ p ∈ X.pn ++ pins, p.1 ≠ b) :
    Inv X pins σ H' { s with heap := h', gens := g', drawn := d', toks := t' } := by
  obtain ⟨m, ⟨o, es, ep, ho, r⟩, _⟩ := id I.loc
  obtain ⟨sl, hL⟩ := u.any ho I.free fun z => (hch _ z).2.1 rfl
  exact I.step (ch := ch) hch (fun b o hL hb hc e n => u.keep b o e n (fun z => (List.mem_cons.mp (I.stkSub b z)).elim hL hb) hc) (fun b o _ _ hc e n => u.any e n hc) (fun b o hc e n => u.free b o e n hc) (fun b o hc e => u.there b o e hc) u.tups u.frzs u.tbls (fun m' hm => by
    obtain ⟨o', es', ep', ho', r'⟩ := hm
    rw [ho] at ho'; cases ho'
    exact ⟨_, es', ep', hL, r'⟩) hok hg
/-- an untracked record of ours (an iterator) has turned -/
theorem Inv.turned {t' : Nat} {it : Addr} (I : Inv X pins σ H s) (k : ∀ b o, b ≠ it → s.heap.get? b = some o → h'.get? b = some o) (hn : H it = none) (hL : it ≠ X.env.locals)
    (h1 : it ∈ X.ex ∨ X.s₀.heap.objs.size ≤ it) (h2 : ∀ x c, X.env.cells.lookup x = some c → c ≠ it) (h3 : ∀ p ∈ X.pn ++ pins, p.1 ≠ it) : Inv X pins σ H { s with heap := h', toks := t' } := by
  have nit : ∀ b u, H b = some u → b ≠ it := fun b u e z => by rw [z, hn] at e; cases e
  refine I.step (g' := s.gens) (d' := s.drawn) (ch := [it]) (fun b hb => ?_) (fun b o _ _ hc e _ => k b o (fun z => hc (by simp [z])) e) (fun b o _ _ hc e _ => ⟨o.slots, k b o (fun z => hc (by simp [z])) e⟩) (fun _ _ _ _ n => n)
    (fun b o hc e => ⟨o, k b o (fun z => hc (by simp [z])) e⟩) (fun _ _ e => e) (fun _ _ _ e => e) (fun b ps e => ⟨#[], by rw [e]; simp⟩) (fun m hm => ?_) (fun b u e => ?_) I.bare
  · have e : b = it := by simpa using hb
    subst e
    exact ⟨h1, hL, h2, h3⟩
  · obtain ⟨o, es, ep, ho, r⟩ := hm
    exact ⟨o, es, ep, k _ o (Ne.symm hL) ho, r⟩
  · refine (I.hok b u e).stay (fun c v hc q => k c v ?_ q) (fun _ q => q) fun _ _ q => q
    rcases hc with z | z
    · rw [z]; exact nit b u e
    · exact nit c _ z
theorem Inv.tok (I : Inv X pins σ H s) (t : Nat) : Inv X pins σ H { s with toks := t } := I.un (h' := s.heap) (t' := t) Un.refl I.hok
/-- all objects kept -/
theorem Inv.kept {t' : Nat} (I : Inv X pins σ H s) (k : ∀ b u, s.heap.get? b = some u → h'.get? b = some u) : Inv X pins σ H { s with heap := h', toks := t' } := I.un (Un.kept k) (I.hok.kept k)
/-- a new object laid and tracked -/
theorem Inv.laid {a : Addr} {o : HO} {t' : Nat} (I : Inv X pins σ H s) (k : ∀ b u, s.heap.get? b = some u → h'.get? b = some u) (hp : s.heap.objs.size ≤ a) (new : ObjOk X.prog X.w (upd H a o) h' a o) :
    Inv X pins σ (upd H a o) { s with heap := h', toks := t' } := I.un (Un.laid k hp (I.hok.fresh hp)) (I.hok.laid k hp new)
/-- an object written -/
theorem Inv.write {x e : Addr} {o : HO} {t' : Nat} (I : Inv X pins σ H s) (mu : Mut (H x)) (he : e = x ∨ H e = some (.own x)) (k : ∀ b u, b ≠ e → s.heap.get? b = some u → h'.get? b = some u) (heo : ∃ u, h'.get? e = some u)
    (new : ObjOk X.prog X.w (upd H x o) h' x o) : Inv X pins σ (upd H x o) { s with heap := h', toks := t' } := I.un (Un.write mu he k heo) (I.hok.write mu he k heo new)
/-- forgetting slots, pins -/
theorem Inv.weak {σ' : List (Option V)} (I : Inv X pins σ H s) (hl : σ'.length = σ.length) (w : ∀ (i : Nat) v, σ'[i]? = some (some v) → σ[i]? = some (some v)) : Inv X pins σ' H s :=
  ⟨I.ok, I.os, I.bare, I.base, let ⟨m, hn, hl'⟩ := I.loc; ⟨m, hn, fun i x v e1 e2 e3 => hl' i x v e1 (w i v e2) e3⟩, I.cell, I.free, I.freeC, I.pin, I.hok, hl.trans I.len⟩
theorem Inv.pins_of {pins' : List (Addr × Obj)} (I : Inv X pins σ H s) (h : ∀ p ∈ pins', s.heap.get? p.1 = some p.2 ∧ H p.1 = none ∧ p.1 ≠ X.env.locals ∧ p.1 ∉ X.fs ∧ ∀ v, p.2.data ≠ .cell v) : Inv X pins' σ H s :=
  ⟨I.ok, I.os, I.bare, I.base, I.loc, I.cell, I.free, I.freeC, fun p hp => (List.mem_append.mp hp).elim (fun z => I.pin p (List.mem_append_left _ z)) (h p), I.hok, I.len⟩

theorem nodup_ix {N : List Str} (hN : N.Nodup) {i j : Nat} {x : Str} (a : N[i]? = some x) (b : N[j]? = some x) : i = j := by
  obtain ⟨h1, e1⟩ := List.getElem?_eq_some_iff.mp a
  obtain ⟨h2, e2⟩ := List.getElem?_eq_some_iff.mp b
  exact (List.getElem_inj hN).mp (e1.trans e2.symm)

/-- a name is stored; what changed -/
theorem store_ok2 {M : Model} {A : Around} {E : Value → Shared → Prop} {i : Nat} {x : Str} {v : V} {u : Value} {Q : Unit → Shared → Prop} (I : Inv X pins σ H s) (hN : X.N.Nodup) (hi : X.N[i]? = some x) (hx : Loc X.env.scope x) (r : RelV v u)
    (h : ∀ s', Inv X pins (σ.set i (some v)) H s' → (∃ a, Heap.SameBut a s.heap s'.heap ∧ (a = X.env.locals ∨ X.env.cells.lookup x = some a)) → Q () s') (hf : X.fn x = true ∨ X.env.scope.names.lookup x = some .local := by first | exact .inl rfl | exact .inr rfl | assumption) : wpAny M A (storeName X.env x u) Q E s := by
  obtain ⟨m, hn, hl⟩ := id I.loc
  have hcls : (X.env.scope.kind == .class || (X.env.scope.kind == .module && X.env.locals != X.env.globals)) = false := by rw [I.ok.kind]; rfl
  have hiσ : i < σ.length := by rw [I.len]; exact (List.getElem?_eq_some_iff.mp hi).1
  have cne := I.cne
  have tracked : ∀ {a : Addr} {h' : Heap}, (∃ o, s.heap.get? a = some o ∧ H a = none) → Heap.SameBut a s.heap h' → HOk X.prog X.w H h' := fun {a h'} ha hs b ob e => by
    obtain ⟨_, _, hfree⟩ := ha
    refine (I.hok b ob e).stay (fun c w' hc q => (hs.2 c ?_).trans q) (fun _ q => q) fun _ _ q => q
    rintro rfl
    rcases hc with rfl | hc
    · rw [hfree] at e; cases e
    · rw [hfree] at hc; cases hc
  rcases hx with hk | hk
  · refine wpAny_storeName_local hk hn (fun h' hn' hs => ?_) hcls
    obtain ⟨oL, _, _, hoL, _⟩ := id hn
    refine h _ ⟨I.ok, I.os, I.bare, ⟨fun b o e n hb hx => ?_, fun b o e n hb hx => ?_, I.base.free, fun b o e hx => ?_, I.base.tups, I.base.frzs, I.base.tbls⟩, ⟨_, hn', fun j y v' e1 e2 e3 => ?_⟩, fun y c e => ?_, I.free, I.freeC, fun p hp => ?_, tracked ⟨oL, hoL, I.free⟩ hs, by simpa using I.len⟩ ⟨_, hs, .inl rfl⟩
    · exact (hs.2 b (Nat.ne_of_lt (Nat.lt_of_lt_of_le (Heap.lt_size e) I.ok.above))).trans (I.base.keep b o e n hb hx)
    · obtain ⟨sl, e1⟩ := I.base.slot b o e n hb hx
      exact ⟨sl, (hs.2 b (Nat.ne_of_lt (Nat.lt_of_lt_of_le (Heap.lt_size e) I.ok.above))).trans e1⟩
    · obtain ⟨o', e1⟩ := I.base.there b o e hx
      exact ⟨o', (hs.2 b (Nat.ne_of_lt (Nat.lt_of_lt_of_le (Heap.lt_size e) I.ok.above))).trans e1⟩
    · by_cases hj : j = i
      · subst hj
        rw [hi] at e1; cases e1
        rw [List.getElem?_set_self hiσ] at e2
        cases e2
        exact ⟨u, r, .inl ⟨hk, by simp⟩⟩
      · rw [List.getElem?_set_ne (Ne.symm hj)] at e2
        obtain ⟨u', r', q⟩ := hl j y v' e1 e2 e3
        refine ⟨u', r', ?_⟩
        rcases q with ⟨k, e⟩ | ⟨k, c, e, z⟩
        · refine .inl ⟨k, ?_⟩
          have : y ≠ x := fun e => hj (nodup_ix hN e1 (e ▸ hi))
          simp [this, e]
        · exact .inr ⟨k, c, e, z.sameBut hs (cne y c e)⟩
    · obtain ⟨w', z⟩ := I.cell y c e
      exact ⟨w', z.sameBut hs (cne y c e)⟩
    · obtain ⟨e, n, ne, nf, d⟩ := I.pin p hp
      exact ⟨(hs.2 p.1 ne).trans e, n, ne, nf, d⟩
  · have hfn : X.fn x = true := by
      rcases hf with z | z
      · exact z
      · rw [z] at hk; cases hk
    obtain ⟨c, hc⟩ := I.ok.has x (.inl hk)
    obtain ⟨w', z⟩ := I.cell x c hc
    refine wpAny_storeName_cell I.ok.kind hk hc z (fun h' hc' hs => ?_)
    obtain ⟨oc, hoc, hocd⟩ := id z
    refine h { s with heap := h' } ⟨I.ok, I.os, I.bare, ⟨fun b o e n hb hx => ?_, fun b o e n hb hx => ?_, I.base.free, fun b o e hx => ?_, I.base.tups, I.base.frzs, I.base.tbls⟩, ⟨m, hn.sameBut hs (Ne.symm (cne x c hc)), fun j y v' e1 e2 e3 => ?_⟩, fun y c' e => ?_, I.free, I.freeC, fun p hp => ?_, tracked ⟨oc, hoc, I.freeC x c hc⟩ hs, by simpa using I.len⟩ ⟨c, hs, .inr hc⟩
    · exact (hs.2 b (Nat.ne_of_lt (Nat.lt_of_lt_of_le (Heap.lt_size e) (I.ok.cab x c hfn hc)))).trans (I.base.keep b o e n hb hx)
    · obtain ⟨sl, e1⟩ := I.base.slot b o e n hb hx
      exact ⟨sl, (hs.2 b (Nat.ne_of_lt (Nat.lt_of_lt_of_le (Heap.lt_size e) (I.ok.cab x c hfn hc)))).trans e1⟩
    · obtain ⟨o', e1⟩ := I.base.there b o e hx
      exact ⟨o', (hs.2 b (Nat.ne_of_lt (Nat.lt_of_lt_of_le (Heap.lt_size e) (I.ok.cab x c hfn hc)))).trans e1⟩
    · by_cases hj : j = i
      · subst hj
        rw [hi] at e1; cases e1
        rw [List.getElem?_set_self hiσ] at e2
        cases e2
        exact ⟨u, r, .inr ⟨.inl hk, c, hc, hc'⟩⟩
      · rw [List.getElem?_set_ne (Ne.symm hj)] at e2
        obtain ⟨u', r', q⟩ := hl j y v' e1 e2 e3
        refine ⟨u', r', ?_⟩
        rcases q with q | ⟨k, c', e, z'⟩
        · exact .inl q
        · refine .inr ⟨k, c', e, z'.sameBut hs ?_⟩
          rintro rfl
          exact hj (nodup_ix hN e1 (I.ok.inj _ _ _ e hc ▸ hi))
    · by_cases hcc : c' = c
      · subst hcc; exact ⟨_, hc'⟩
      · obtain ⟨w2, z2⟩ := I.cell y c' e
        exact ⟨w2, z2.sameBut hs hcc⟩
    · obtain ⟨e, n, ne, nf, d⟩ := I.pin p hp
      refine ⟨(hs.2 p.1 ?_).trans e, n, ne, nf, d⟩
      intro q
      rw [q, hoc] at e
      have q' : oc = p.2 := Option.some.inj e
      exact d w' (by rw [← q']; exact hocd)
theorem store_ok {M : Model} {A : Around} {E : Value → Shared → Prop} {i : Nat} {x : Str} {v : V} {u : Value} {Q : Unit → Shared → Prop} (I : Inv X pins σ H s) (hN : X.N.Nodup) (hi : X.N[i]? = some x) (hx : Loc X.env.scope x) (r : RelV v u)
    (h : ∀ s', Inv X pins (σ.set i (some v)) H s' → Q () s') (hf : X.fn x = true ∨ X.env.scope.names.lookup x = some .local := by first | exact .inl rfl | exact .inr rfl | assumption) : wpAny M A (storeName X.env x u) Q E s :=
  store_ok2 I hN hi hx r (fun s' I' _ => h s' I') hf
/-- behind a call or a block, the state as it is -/
theorem Inv.call' {s' : Shared} {ch : List Addr} (I : Inv X pins σ H s) (ho : s'.os = s.os) (u : Un (frs X.stack) ch H H' s.heap s'.heap) (hok : HOk X.prog X.w H' s'.heap) (hg : AllBare s'.gens)
    (hch : ∀ b ∈ ch, (b ∈ X.ex ∨ X.s₀.heap.objs.size ≤ b) ∧ b ≠ X.env.locals ∧ (∀ x c, X.env.cells.lookup x = some c → c ≠ b) ∧ ∀ p ∈ X.pn ++ pins, p.1 ≠ b) : Inv X pins σ H' s' := by
  obtain ⟨h', g', d', t', o'⟩ := s'
  have e : o' = s.os := ho
  subst e
  exact I.call (g' := g') (t' := t') (d' := d') u hok hg hch
end

/-- an exception: its class, its own dict's address (where it has one), the abstract heap behind it -/
abbrev XK := Value → Option Addr → Hp → Prop
abbrev St := List (Option V)
abbrev VK := V → Hp → Prop
/-- an expression's reading; a test's; an argument list's -/
abbrev TE := St → Hp → VK → Prop
abbrev TT := St → Hp → (Bool → Hp → Prop) → Prop
abbrev TA := St → Hp → (List V → Hp → Prop) → Prop
/-- what is wanted behind a statement -/
structure Ends where
  nx : St → Hp → Prop
  rt : VK
  bk : St → Hp → Prop := fun _ _ => False
  ct : St → Hp → Prop := fun _ _ => False
abbrev TS := Ends → St → Hp → Prop

def EP (X : Cx) (pins : List (Addr × Obj)) (σ : St) (Q : VK) (u : Value) (s' : Shared) : Prop := ∃ v H', Inv X pins σ H' s' ∧ RelV v u ∧ Q v H'
def TP (X : Cx) (pins : List (Addr × Obj)) (σ : St) (Q : Bool → Hp → Prop) (b : Bool) (s' : Shared) : Prop := ∃ H', Inv X pins σ H' s' ∧ Q b H'
def AP (X : Cx) (pins : List (Addr × Obj)) (σ : St) (Q : List V → Hp → Prop) (us : List Value) (s' : Shared) : Prop := ∃ vs H', Inv X pins σ H' s' ∧ Vals vs us ∧ Q vs H'
def SP (X : Cx) (pins : List (Addr × Obj)) (D : Ends) (f : Flow) (s' : Shared) : Prop :=
  match f with
  | .next => ∃ σ' H', Inv X pins σ' H' s' ∧ D.nx σ' H'
  | .brk => ∃ σ' H', Inv X pins σ' H' s' ∧ D.bk σ' H'
  | .cont => ∃ σ' H', Inv X pins σ' H' s' ∧ D.ct σ' H'
  | .ret u => ∃ v σ' H', Inv X pins σ' H' s' ∧ RelV v u ∧ D.rt v H'

def PE (X : Cx) (e : Expr) (t : TE) : Prop :=
  ∀ (pins : List (Addr × Obj)) (s : Shared) (σ : St) (H : Hp) (Q : VK), Inv X pins σ H s → t σ H Q → wpAny (model X.prog X.w) X.A (eval e X.env) (EP X pins σ Q) X.xe s
def PT (X : Cx) (e : Expr) (t : TT) : Prop :=
  ∀ (pins : List (Addr × Obj)) (s : Shared) (σ : St) (H : Hp) (Q : Bool → Hp → Prop), Inv X pins σ H s → t σ H Q → wpAny (model X.prog X.w) X.A (isTrue e X.env (eval e X.env)) (TP X pins σ Q) X.xe s
/-- a test whatever its 'whole' is (and, or) -/
def PW (X : Cx) (e : Expr) (t : TT) : Prop :=
  ∀ (whole : Sem Value) (pins : List (Addr × Obj)) (s : Shared) (σ : St) (H : Hp) (Q : Bool → Hp → Prop), Inv X pins σ H s → t σ H Q → wpAny (model X.prog X.w) X.A (isTrue e X.env whole) (TP X pins σ Q) X.xe s
theorem PW.pt {X : Cx} {e : Expr} {t : TT} (h : PW X e t) : PT X e t := h _
/-- an argument list (no star), from the left -/
def PA (X : Cx) (es : List Expr) (t : TA) : Prop :=
  ∀ (pos : Pos) (pins : List (Addr × Obj)) (s : Shared) (σ : St) (H : Hp) (Q : List V → Hp → Prop), Inv X pins σ H s → t σ H Q → wpAny (model X.prog X.w) X.A (spliced (backTo pos (starEach es X.env))) (AP X pins σ Q) X.xe s
def PS (X : Cx) (st : Stmt) (t : TS) : Prop :=
  ∀ (pins : List (Addr × Obj)) (s : Shared) (σ : St) (H : Hp) (D : Ends), Inv X pins σ H s → t D σ H → wpAny (model X.prog X.w) X.A (exec st X.env) (SP X pins D) X.xe s
def PSs (X : Cx) (st : List Stmt) (t : TS) : Prop :=
  ∀ (pins : List (Addr × Obj)) (s : Shared) (σ : St) (H : Hp) (D : Ends), Inv X pins σ H s → t D σ H → wpAny (model X.prog X.w) X.A (execs st X.env) (SP X pins D) X.xe s
/-- weaken the end -/
theorem thn {α : Type} {t : Sem α} {Q Q' : α → Shared → Prop} {M : Model} {A : Around} {E : Value → Shared → Prop} {s : Shared} (h : wpAny M A t Q E s) (hQ : ∀ a s, Q a s → Q' a s) : wpAny M A t Q' E s := wpAny_mono h hQ fun _ _ x => x
end L2

namespace L2
open PySem PySem.Spec PyProof.Rows
section
variable {X : Cx}

/-- two expressions in a row -/
theorem bin {a b : Expr} {ta tb : TE} (ha : PE X a ta) (hb : PE X b tb) {pins : List (Addr × Obj)} {s : Shared} {σ : St} {H : Hp} {R : V → V → Hp → Prop} (I : Inv X pins σ H s) (h : ta σ H fun x H1 => tb σ H1 fun y H2 => R x y H2)
    {α : Type} {Q : α → Shared → Prop} {f : Value → Value → Sem α}
    (hf : ∀ v u s2 x y H2, Inv X pins σ H2 s2 → RelV x v → RelV y u → R x y H2 → wpAny (model X.prog X.w) X.A (f v u) Q X.xe s2) :
    wpAny (model X.prog X.w) X.A (eval a X.env) (fun v s₁ => wpAny (model X.prog X.w) X.A (eval b X.env) (fun u s₂ => wpAny (model X.prog X.w) X.A (f v u) Q X.xe s₂) X.xe s₁) X.xe s := by
  refine thn (ha pins s σ H _ I h) fun v s1 ⟨x, H1, I1, r1, q1⟩ => ?_
  refine thn (hb pins s1 σ H1 _ I1 q1) fun u s2 ⟨y, H2, I2, r2, q2⟩ => ?_
  exact hf v u s2 x y H2 I2 r1 r2 q2

def tVar (i : Nat) : TE := fun σ H Q => ∃ v, σ[i]? = some (some v) ∧ Q v H
def tC (v : V) : TE := fun _ H Q => Q v H
theorem pe_var {i : Nat} {x : Str} {pos : Pos} (hN : X.N[i]? = some x) (hv : Vis X.env.scope x) (hd : (x == ("__debug__" : Str)) = false := by decide) (hcd : (x == ("__classdict__" : Str)) = false := by decide) : PE X (.Name x pos) (tVar i) := by
  intro pins s σ H Q I h
  obtain ⟨v, e, h⟩ := h
  obtain ⟨m, hn, hl⟩ := I.loc
  obtain ⟨u, r, l⟩ := hl i x v hN e hv
  have fin : EP X pins σ Q u s := ⟨v, H, I, r, h⟩
  rcases l with ⟨hk, hm⟩ | ⟨hk, c, hc, hcell⟩
  · exact wpAny_Name (wpAny_loadName_local I.ok.kind hk hn hm fin) hd
  · rcases hk with hk | hk
    · exact wpAny_Name (wpAny_loadName_cell I.ok.kind hk hc hcell fin) hd
    · exact wpAny_Name (wpAny_loadName_free I.ok.kind hk hc hcell fin hcd) hd
theorem pe_int {i j pos} : PE X (.Constant (.int i) j pos) (tC (.int i)) := fun _ _ _ H _ I h => wpAny_Constant_int ⟨.int i, H, I.tok _, ⟨_, rfl⟩, h⟩
theorem pe_bl {b j pos} : PE X (.Constant (.bool b) j pos) (tC (.bl b)) := fun _ _ _ H _ I h => Constant_bool ⟨.bl b, H, I, rfl, h⟩
theorem pe_non {j pos} : PE X (.Constant .none j pos) (tC .non) := fun _ _ _ H _ I h => Constant_none ⟨.non, H, I, rfl, h⟩
theorem pe_str {x j pos} : PE X (.Constant (.str x) j pos) (tC (.str x)) := fun _ _ _ H _ I h => Calls.Constant_str ⟨.str x, H, I.tok _, ⟨_, rfl⟩, h⟩

/-- a global name of the def -/
def Gl (X : Cx) (x : Str) : Prop := X.env.kindOf x = some .globalImplicit
theorem ld_glob {E : Value → Shared → Prop} {pins : List (Addr × Obj)} {s : Shared} {σ : St} {H : Hp} {x : Str} {u : Value} {pos : Pos} {Q : Value → Shared → Prop} (I : Inv X pins σ H s) (hg : Gl X x) (hm : X.mg x = some u) (h : Q u s)
    (hd : (x == ("__debug__" : Str)) = false := by decide) : wpAny (model X.prog X.w) X.A (eval (.Name x pos) X.env) Q E s :=
  Calls.Name_function_global I.ok.kind hg (Calls.loadGlobal_global (by rw [I.ok.glob]; exact I.mod.glob.keeps I.bk) hm h) hd
theorem ld_blt {E : Value → Shared → Prop} {pins : List (Addr × Obj)} {s : Shared} {σ : St} {H : Hp} {x : Str} {u : Value} {pos : Pos} {Q : Value → Shared → Prop} (I : Inv X pins σ H s) (hg : Gl X x) (hm : X.mg x = none) (hv : bootBuiltins x = some u) (h : Q u s)
    (hn : x ≠ "__name__" := by decide) (hd : (x == ("__debug__" : Str)) = false := by decide) : wpAny (model X.prog X.w) X.A (eval (.Name x pos) X.env) Q E s := by
  obtain ⟨mb, h1, h2⟩ := I.mod.blt
  exact Calls.Name_function_global I.ok.kind hg (Calls.loadGlobal_builtin (by rw [I.ok.glob]; exact I.mod.glob.keeps I.bk) hm (by rw [I.ok.blt]; exact h1.keeps I.bk) ((h2 x hn).trans hv) h) hd
/-- a module's constant, a class, a function, as a value -/
theorem pe_glob {x : Str} {v : V} {u : Value} {pos : Pos} (hg : Gl X x) (hm : X.mg x = some u) (r : RelV v u) (hd : (x == ("__debug__" : Str)) = false := by decide) : PE X (.Name x pos) (tC v) :=
  fun _ _ _ H _ I h => ld_glob I hg hm ⟨v, H, I, r, h⟩ hd
theorem pe_bltn {x : Str} {v : V} {u : Value} {pos : Pos} (hg : Gl X x) (hm : X.mg x = none) (hv : bootBuiltins x = some u) (r : RelV v u) (hn : x ≠ "__name__" := by decide) (hd : (x == ("__debug__" : Str)) = false := by decide) : PE X (.Name x pos) (tC v) :=
  fun _ _ _ H _ I h => ld_blt I hg hm hv ⟨v, H, I, r, h⟩ hn hd

variable {a b : Expr} {ta tb : TE} {pos : Pos}
def PC (X : Cx) (op : CmpOp) (a b : Expr) (t : TE) : Prop :=
  ∀ (pins : List (Addr × Obj)) (s : Shared) (σ : St) (H : Hp) (Q : VK), Inv X pins σ H s → t σ H Q →
    wpAny (model X.prog X.w) X.A (eval a X.env) (fun v s₁ => wpAny (model X.prog X.w) X.A (eval b X.env) (fun u s₂ => wpAny (model X.prog X.w) X.A (compareOp op v u) (EP X pins σ Q) X.xe s₂) X.xe s₁) X.xe s
theorem nobehind (b : Expr) {op : CmpOp} (h : op ≠ .In) (h2 : op ≠ .NotIn) : behindInMarks op b = false := by
  have e1 : (op == CmpOp.In) = false := by cases op <;> first | rfl | exact absurd rfl h
  have e2 : (op == CmpOp.NotIn) = false := by cases op <;> first | rfl | exact absurd rfl h2
  cases b <;> simp [behindInMarks, e1, e2]
/-- is None -/
def tIsN (ta : TE) : TE := fun σ H Q => ta σ H fun x H1 => Q (.bl (decide (x = .non))) H1
theorem RelV.none_iff {x : V} {v : Value} (r : RelV x v) : (v == Value.none) = decide (x = .non) := by
  cases x with
  | non => cases r; rfl
  | bl _ => cases r; rfl
  | int _ => obtain ⟨t, rfl⟩ := r; rfl
  | str _ => obtain ⟨t, rfl⟩ := r; rfl
  | byt _ => obtain ⟨t, rfl⟩ := r; rfl
  | flt _ => obtain ⟨t, rfl⟩ := r; rfl
  | ref _ => cases r; rfl
  | ty _ => cases r; rfl
theorem pc_isN {j pos'} (ha : PE X a ta) : PC X .Is a (.Constant .none j pos') (tIsN ta) := by
  intro pins s σ H Q I h
  refine thn (ha pins s σ H _ I h) fun v s1 ⟨x, H1, I1, r1, q1⟩ => ?_
  exact Constant_none (is_none_gen ⟨.bl _, H1, I1, by rw [r1.none_iff]; rfl, q1⟩)
/-- a comparison as a value, as a test -/
def tB (t : TE) : TT := fun σ H Q => t σ H fun x H1 => ∃ c, x = .bl c ∧ Q c H1
theorem pt_cmp {op : CmpOp} {t : TE} (h : PC X op a b t) (h1 : behindInMarks op b = false := by first | exact nobehind _ (by decide) (by decide) | rfl) : PT X (.Compare a [op] [b] pos) (tB t) := by
  intro pins s σ H Q I hw
  refine wpAny_isTrue_Compare1 (thn (h pins s σ H _ I hw) fun v s1 h1 => thn h1 fun u s2 h2 => thn h2 fun c s3 ⟨x, H1, I1, r1, q1⟩ => ?_) h1
  obtain ⟨d, rfl, q⟩ := q1
  cases r1
  exact wpAny_truthy_bool ⟨H1, I1, q⟩
/-- an expression whose value is a bool, as a test -/
theorem pt_val {e : Expr} {t : TE} (h : PE X e t) (he : ∀ whole, isTrue e X.env whole = (do let v ← whole; standAt e.pos; holding [v] (truthy v)) := by intro _; rfl) : PT X e (tB t) := by
  intro pins s σ H Q I hw
  refine isTrue_plain (thn (h pins s σ H _ I hw) fun v s1 ⟨x, H1, I1, r1, q1⟩ => ?_) (he _)
  obtain ⟨d, rfl, q⟩ := q1
  cases r1
  exact wpAny_truthy_bool ⟨H1, I1, q⟩

variable {tA tB' : TT} {rest : List Expr}
def tOr (t u : TT) : TT := fun σ H Q => t σ H fun c H1 => if c = true then Q true H1 else u σ H1 Q
def tNot (t : TT) : TT := fun σ H Q => t σ H fun c H1 => Q (!c) H1
theorem pw_or1 (ha : PT X a tA) : PW X (.BoolOp .Or [a] pos) tA := by
  intro wh pins s σ H Q I h
  refine isTrue_or (thn (ha pins s σ H Q I h) fun c s1 e => ?_)
  cases c with
  | false => exact isTrue_or_nil e
  | true => exact e
theorem pw_or (ha : PT X a tA) (hb : PW X (.BoolOp .Or (b :: rest) pos) tB') : PW X (.BoolOp .Or (a :: b :: rest) pos) (tOr tA tB') := by
  intro wh pins s σ H Q I h
  refine isTrue_or (thn (ha pins s σ H _ I h) fun c s1 ⟨H1, I1, q1⟩ => ?_)
  cases c with
  | true => exact ⟨H1, I1, q1⟩
  | false => exact hb wh pins s1 σ H1 Q I1 q1
theorem pt_not (ha : PT X a tA) : PT X (.UnaryOp .Not a pos) (tNot tA) := by
  intro pins s σ H Q I h
  exact isTrue_not (ha pins s σ H (fun c H1 => Q (!c) H1) I h)
/-- .. as values (bools) -/
def tAndV (ta tb : TE) : TE := fun σ H Q => ta σ H fun x H1 => ∃ c, x = .bl c ∧ if c = true then tb σ H1 Q else Q (.bl false) H1
theorem pe_one {op} {t : TE} (h : PE X a t) : PE X (.BoolOp op [a] pos) t := fun pins s σ H Q I hw => BoolOp_one (h pins s σ H Q I hw)
theorem pe_and (ha : PE X a ta) (hb : PE X (.BoolOp .And (b :: rest) pos) tb) : PE X (.BoolOp .And (a :: b :: rest) pos) (tAndV ta tb) := by
  intro pins s σ H Q I h
  refine BoolOp_and (thn (ha pins s σ H _ I h) fun v s1 ⟨x, H1, I1, r1, q1⟩ => ?_)
  obtain ⟨c, rfl, q1⟩ := q1
  cases r1
  refine wpAny_truthy_bool ?_
  cases c with
  | true => exact hb pins s1 σ H1 Q I1 q1
  | false => exact ⟨.bl false, H1, I1, rfl, q1⟩
/-- a if t else b -/
def tIf (t : TT) (ta tb : TE) : TE := fun σ H Q => t σ H fun c H1 => if c = true then ta σ H1 Q else tb σ H1 Q
theorem pe_ifExp {c : Expr} (hc : PT X c tA) (ha : PE X a ta) (hb : PE X b tb) : PE X (.IfExp c a b pos) (tIf tA ta tb) := by
  intro pins s σ H Q I h
  refine wpAny_IfExp (thn (hc pins s σ H _ I h) fun d s1 ⟨H1, I1, q1⟩ => ?_)
  cases d with
  | true => exact ha pins s1 σ H1 Q I1 q1
  | false => exact hb pins s1 σ H1 Q I1 q1
end
end L2

namespace L2
open PySem PySem.Spec PyProof.Rows

def SqL (K : PySem.W.Frag) (H : Hp) (a : Addr) (xs : List V) : Prop :=
  Rd H a (.lst xs) ∨
    ∃ (o : Obj) (its : Array Value) (n : Nat), K.lookup a = some o ∧ o.cls = .type "list" ∧ o.dict = none ∧ o.data = .seq its n ∧ its.size ≤ sizeLine ∧ Vals xs its.toList
def SqT (K : PySem.W.Frag) (H : Hp) (a : Addr) (xs : List V) : Prop :=
  Rd H a (.tup xs) ∨
    ∃ (o : Obj) (its : Array Value) (n : Nat), K.lookup a = some o ∧ o.cls = .type "tuple" ∧ o.data = .seq its n ∧ its.size ≤ sizeLine ∧ Vals xs its.toList
def absV : Value → Option V
  | .none => some .non
  | .bool b => some (.bl b)
  | .int i _ => some (.int i)
  | .str x _ => some (.str x)
  | .bytes b _ => some (.byt b)
  | .float b _ => some (.flt b)
  | .ref a => some (.ref a)
  | .type n => some (.ty n)
  | _ => none
theorem RelV.abs {x : V} {u : Value} (r : RelV x u) : absV u = some x := by
  cases x with
  | non => cases r; rfl
  | bl _ => cases r; rfl
  | int _ => obtain ⟨t, rfl⟩ := r; rfl
  | str _ => obtain ⟨t, rfl⟩ := r; rfl
  | byt _ => obtain ⟨t, rfl⟩ := r; rfl
  | flt _ => obtain ⟨t, rfl⟩ := r; rfl
  | ref _ => cases r; rfl
  | ty _ => cases r; rfl
theorem RelV.inj {x y : V} {u : Value} (r : RelV x u) (q : RelV y u) : x = y := Option.some.inj (r.abs.symm.trans q.abs)
theorem Vals.inj : ∀ {xs ys : List V} {us : List Value}, Vals xs us → Vals ys us → xs = ys
  | _, _, _, .nil, .nil => rfl
  | _, _, _, .cons r t, .cons r' t' => by rw [r.inj r', Vals.inj t t']
section
variable {X : Cx} {pins : List (Addr × Obj)} {σ : St} {H : Hp} {s : Shared} {a : Addr} {xs ys : List V}
theorem SqL.of {K : PySem.W.Frag} (h : H a = some (.lst xs)) : SqL K H a xs := .inl (.inl h)
theorem SqT.of {K : PySem.W.Frag} (h : H a = some (.tup xs)) : SqT K H a xs := .inl (.inl h)
theorem Inv.list (I : Inv X pins σ H s) (h : SqL X.K H a xs) : ∃ its : List Value, Vals xs its ∧ PlainL s.heap a its.toArray ∧ xs.length ≤ sizeLine := by
  rcases h with h | ⟨o, its, n, hk, hc, hd, hs, hz, r⟩
  · obtain ⟨z, its, n, r, e⟩ := h.ok I.hok
    exact ⟨its, r, ⟨_, n, e, rfl, rfl, rfl⟩, z⟩
  · refine ⟨its.toList, r, ⟨o, n, I.kIn a o hk, hc, hd, by simpa using hs⟩, ?_⟩
    have e := r.length
    simp only [Array.length_toList] at e
    omega
theorem Inv.tuple (I : Inv X pins σ H s) (h : SqT X.K H a xs) : ∃ its : List Value, Vals xs its ∧ IsTup s.heap a its.toArray ∧ xs.length ≤ sizeLine := by
  rcases h with h | ⟨o, its, n, hk, hc, hs, hz, r⟩
  · obtain ⟨z, its, r, p⟩ := h.ok I.hok
    exact ⟨its, r, p, z⟩
  · refine ⟨its.toList, r, ⟨o, I.kIn a o hk, hc, n, by simpa using hs⟩, ?_⟩
    have e := r.length
    simp only [Array.length_toList] at e
    omega
theorem Inv.list_inj (I : Inv X pins σ H s) (h : SqL X.K H a xs) (h' : SqL X.K H a ys) : xs = ys := by
  obtain ⟨its, r, ⟨o, n, e, _, _, d⟩, _⟩ := I.list h
  obtain ⟨its', r', ⟨o', n', e', _, _, d'⟩, _⟩ := I.list h'
  rw [e] at e'; cases e'
  rw [d] at d'
  injection d' with d1 _
  have : its = its' := by simpa using congrArg Array.toList d1
  subst this
  exact r.inj r'
theorem Inv.tuple_inj (I : Inv X pins σ H s) (h : SqT X.K H a xs) (h' : SqT X.K H a ys) : xs = ys := by
  obtain ⟨its, r, ⟨o, e, _, n, d⟩, _⟩ := I.tuple h
  obtain ⟨its', r', ⟨o', e', _, n', d'⟩, _⟩ := I.tuple h'
  rw [e] at e'; cases e'
  rw [d] at d'
  injection d' with d1 _
  have : its = its' := by simpa using congrArg Array.toList d1
  subst this
  exact r.inj r'
end

abbrev Cx.wish (X : Cx) (E : Value → Shared → Prop) : Cx := { X with xe := E }
/-- no exception leaves -/
abbrev Cx.nox (X : Cx) : Cx := X.wish fun _ _ => False
theorem Cx.Ok.wish {X : Cx} (ok : X.Ok) (E : Value → Shared → Prop) : (X.wish E).Ok :=
  ⟨ok.mod, ok.kind, ok.glob, ok.blt, ok.above, ok.inj, ok.has, ok.cab, ok.hd, ok.frames, ok.stk, ok.exf, ok.bs, ok.bsz, ok.noex, ok.exfs, ok.funs, ok.frf⟩
theorem Cx.Ok.unwish {X : Cx} {E : Value → Shared → Prop} (ok : (X.wish E).Ok) : X.Ok :=
  ⟨ok.mod, ok.kind, ok.glob, ok.blt, ok.above, ok.inj, ok.has, ok.cab, ok.hd, ok.frames, ok.stk, ok.exf, ok.bs, ok.bsz, ok.noex, ok.exfs, ok.funs, ok.frf⟩
section
variable {X : Cx} {pins : List (Addr × Obj)} {σ : St} {H : Hp} {s : Shared} {E : Value → Shared → Prop}
theorem Inv.wish (I : Inv X pins σ H s) (E : Value → Shared → Prop) : Inv (X.wish E) pins σ H s := ⟨I.ok.wish E, I.os, I.bare, I.base, I.loc, I.cell, I.free, I.freeC, I.pin, I.hok, I.len⟩
theorem Inv.unwish (I : Inv (X.wish E) pins σ H s) : Inv X pins σ H s := ⟨I.ok.unwish, I.os, I.bare, I.base, I.loc, I.cell, I.free, I.freeC, I.pin, I.hok, I.len⟩
theorem SP.unwish {D : Ends} {f : Flow} {s' : Shared} (h : SP (X.wish E) pins D f s') : SP X pins D f s' := by
  cases f with
  | next => obtain ⟨σ', H', I, q⟩ := h; exact ⟨σ', H', I.unwish, q⟩
  | brk => obtain ⟨σ', H', I, q⟩ := h; exact ⟨σ', H', I.unwish, q⟩
  | cont => obtain ⟨σ', H', I, q⟩ := h; exact ⟨σ', H', I.unwish, q⟩
  | ret u => obtain ⟨v, σ', H', I, r, q⟩ := h; exact ⟨v, σ', H', I.unwish, r, q⟩
theorem PSs.nox {st : List Stmt} {t : TS} (h : PSs X.nox st t) : PSs X st t := fun pins s σ H D I hw =>
  wpAny_mono (h pins s σ H D (I.wish _) hw) (fun _ _ q => q.unwish) fun _ _ z => False.elim z
end

section
variable {X : Cx} {st : Stmt} {rest : List Stmt} {t u : TS} {e : Expr} {te : TE} {pos : Pos}
def tNext : TS := fun D σ H => D.nx σ H
def tSeq (t u : TS) : TS := fun D σ H => t { D with nx := u D } σ H
theorem pss_nil : PSs X [] tNext := fun _ _ σ H _ I h => wpAny_execs_nil ⟨σ, H, I, h⟩
theorem pss_cons (h1 : PS X st t) (h2 : PSs X rest u) : PSs X (st :: rest) (tSeq t u) := by
  intro pins s σ H D I h
  refine wpAny_execs_cons (thn (h1 pins s σ H { D with nx := u D } I h) fun f s1 q => ?_)
  cases f with
  | next =>
    obtain ⟨σ', H', I', q⟩ := q
    exact h2 pins s1 σ' H' D I' q
  | ret v => exact q
  | brk => exact q
  | cont => exact q
theorem pss_one (h1 : PS X st t) : PSs X [st] t := by
  intro pins s σ H D I h
  refine wpAny_execs_cons (thn (h1 pins s σ H D I h) fun f s1 q => ?_)
  cases f with
  | next => exact wpAny_execs_nil q
  | ret v => exact q
  | brk => exact q
  | cont => exact q
/-- in a def's body nothing is shown -/
theorem Inv.quiet {pins : List (Addr × Obj)} {σ : St} {H : Hp} {s : Shared} (I : Inv X pins σ H s) : interactive X.env = false := by simp [interactive, I.ok.kind]
/-- an expression whose value is dropped -/
def tDrop (te : TE) : TS := fun D σ H => te σ H fun _ H1 => D.nx σ H1
theorem ps_expr (he : PE X e te) (hs : swapsWith e none pos.line X.env = pure false := by rfl) : PS X (.Expr e pos) (tDrop te) := by
  intro pins s σ H D I h
  exact wpAny_Expr_any (thn (he pins s σ H _ I h) fun v s1 ⟨x, H1, I1, r1, q1⟩ => ⟨σ, H1, I1, q1⟩) I.quiet hs
def tRet (te : TE) : TS := fun D σ H => te σ H D.rt
theorem ps_ret (he : PE X e te) : PS X (.Return (some e) pos) (tRet te) := by
  intro pins s σ H D I h
  exact wpAny_Return_some (thn (he pins s σ H _ I h) fun v s1 ⟨x, H1, I1, r1, q1⟩ => ⟨x, σ, H1, I1, r1, q1⟩)
def tIfS (c : TT) (t u : TS) : TS := fun D σ H => c σ H fun b H1 => if b = true then t D σ H1 else u D σ H1
theorem ps_if {c : Expr} {a b : List Stmt} {tc : TT} (hc : PT X c tc) (ha : PSs X a t) (hb : PSs X b u) : PS X (.If c a b pos) (tIfS tc t u) := by
  intro pins s σ H D I h
  refine wpAny_If (thn (hc pins s σ H _ I h) fun d s1 ⟨H1, I1, q1⟩ => ?_)
  cases d with
  | true => exact ha pins s1 σ H1 D I1 q1
  | false => exact hb pins s1 σ H1 D I1 q1
/-- code that the proof never comes to -/
def tNever : TS := fun _ _ _ => False
theorem ps_never : PS X st tNever := fun _ _ _ _ _ _ h => h.elim
end

abbrev TG := V → St → Hp → (St → Hp → Prop) → Prop
abbrev TGs := List V → St → Hp → (St → Hp → Prop) → Prop
def PG (X : Cx) (target : Expr) (t : TG) : Prop :=
  ∀ (pins : List (Addr × Obj)) (s : Shared) (σ : St) (H : Hp) (v : V) (u : Value) (Q : St → Hp → Prop), Inv X pins σ H s → RelV v u → t v σ H Q →
    wpAny (model X.prog X.w) X.A (assign target X.env u) (fun _ s' => ∃ σ' H', Inv X pins σ' H' s' ∧ Q σ' H') X.xe s
/-- several targets, one after another -/
def PGs (X : Cx) (ts : List Expr) (t : TGs) : Prop :=
  ∀ (pins : List (Addr × Obj)) (s : Shared) (σ : St) (H : Hp) (vs : List V) (us : List Value) (Q : St → Hp → Prop), Inv X pins σ H s → Vals vs us → t vs σ H Q →
    wpAny (model X.prog X.w) X.A (assignInOrder ((assignEach ts X.env).map (·.2)) us) (fun _ s' => ∃ σ' H', Inv X pins σ' H' s' ∧ Q σ' H') X.xe s
section
variable {X : Cx} {pos : Pos}
def gName (i : Nat) : TG := fun v σ H Q => Q (σ.set i (some v)) H
theorem pg_name {i : Nat} {x : Str} (hN : X.N.Nodup) (hi : X.N[i]? = some x) (hx : Loc X.env.scope x) (hf : X.fn x = true ∨ X.env.scope.names.lookup x = some .local := by first | exact .inl rfl | exact .inr rfl | assumption) : PG X (.Name x pos) (gName i) := by
  intro pins s σ H v u Q I r h
  exact wpAny_assign_Name (store_ok I hN hi hx r (fun s' I' => ⟨_, H, I', h⟩) hf)
def gNil : TGs := fun vs σ H Q => vs = [] ∧ Q σ H
def gCons (t : TG) (u : TGs) : TGs := fun vs σ H Q => ∃ v r, vs = v :: r ∧ t v σ H fun σ' H' => u r σ' H' Q
theorem pgs_nil : PGs X [] gNil := by
  intro pins s σ H vs us Q I r h
  obtain ⟨e, h⟩ := h
  subst e
  cases r
  exact assignInOrder_nil ⟨σ, H, I, h⟩
theorem pgs_cons {e : Expr} {es : List Expr} {t : TG} {u : TGs} (h1 : PG X e t) (h2 : PGs X es u)
    (hs : (assignEach (e :: es) X.env).map (·.2) = assign e X.env :: (assignEach es X.env).map (·.2) := by rfl) : PGs X (e :: es) (gCons t u) := by
  intro pins s σ H vs us Q I r h
  obtain ⟨v, vr, e1, h⟩ := h
  subst e1
  cases r with
  | cons r rr =>
    rw [hs]
    refine assignInOrder_cons (thn (h1 pins s σ H _ _ _ I r h) fun _ s1 ⟨σ1, H1, I1, q1⟩ => ?_)
    exact h2 pins s1 σ1 H1 _ _ Q I1 rr q1
/-- (a, b, ..) = a tuple of that length -/
def gTup (K : PySem.W.Frag) (n : Nat) (t : TGs) : TG := fun v σ H Q => ∃ a xs, v = .ref a ∧ SqT K H a xs ∧ xs.length = n ∧ t xs σ H Q
theorem pg_tup {es : List Expr} {k : Nat} {t : TGs} {n : Nat} (hc : X.calm = true) (h : PGs X es t)
    (hn : (assignEach es X.env).length = n := by rfl) (hst : (assignEach es X.env).findIdx? (·.1) = none := by rfl) : PG X (.Tuple es k pos) (gTup X.K n t) := by
  intro pins s σ H v u Q I r hw
  obtain ⟨a, xs, e1, hq, hl, hw⟩ := hw
  subst e1
  cases r
  obtain ⟨its, rv, ht, hz⟩ := I.tuple hq
  refine assign_Tuple_tuple (I.ok.hd hc) ht (by simp [hn, ← hl, rv.length]) hst fun h' hx => ?_
  have I1 : Inv X pins σ H { s with heap := h' } := I.kept (t' := s.toks) fun b o e => hx b o (Nat.ne_of_lt (Heap.lt_size e)) e
  exact h pins _ σ H xs _ Q I1 (by simpa using rv) hw
/-- target = value -/
def tAsg (te : TE) (g : TG) : TS := fun D σ H => te σ H fun x H1 => g x σ H1 D.nx
/-- name = value -/
theorem ps_set {i : Nat} {x : Str} {e : Expr} {te : TE} {pos' : Pos} (hN : X.N.Nodup) (hi : X.N[i]? = some x) (hx : Loc X.env.scope x) (he : PE X e te) (hs : swapsWith e (some (.Name x pos')) pos.line X.env = pure false := by rfl) (hf : X.fn x = true ∨ X.env.scope.names.lookup x = some .local := by first | exact .inl rfl | exact .inr rfl | assumption) :
    PS X (.Assign [.Name x pos'] e pos) (tAsg te (gName i)) := by
  intro pins s σ H D I h
  refine wpAny_Assign_Name (thn (he pins s σ H _ I h) fun v s1 ⟨y, H1, I1, r1, q1⟩ => ?_) hs
  exact store_ok I1 hN hi hx r1 (fun s2 I2 => ⟨_, H1, I2, q1⟩) hf
end

section
variable {X : Cx} {pos : Pos}
end

/-- at turn i: it yields x (the heap may grow), or it stops -/
structure It where
  go : Nat → Hp → Prop
  yld : Nat → Hp → V → Hp → Prop
  stop : Nat → Hp → Prop
/-- the iterator's own objects may turn: they are not the frame's, not pinned, younger than the entry (or a comprehension's own) -/
def FpOk (X : Cx) (pins : List (Addr × Obj)) (H : Hp) (b : Addr) : Prop :=
  H b = none ∧ b ≠ X.env.locals ∧ b ∉ X.fs ∧ (b ∈ X.ex ∨ X.s₀.heap.objs.size ≤ b) ∧ (∀ x c, X.env.cells.lookup x = some c → c ≠ b) ∧ ∀ p ∈ X.pn ++ pins, p.1 ≠ b
theorem Inv.fpOk {X : Cx} {pins : List (Addr × Obj)} {σ : St} {H H' : Hp} {s : Shared} {b : Addr} (I : Inv X pins σ H s) (hb : s.heap.objs.size ≤ b) (hn : H' b = none) : FpOk X pins H' b := by
  refine ⟨hn, Nat.ne_of_gt (Nat.lt_of_lt_of_le I.lt hb), I.nofs hb, .inr (Nat.le_trans I.sz hb), fun x c e z => ?_, fun p hp z => ?_⟩
  · obtain ⟨v, q⟩ := I.cell x c e
    exact absurd (Nat.lt_of_lt_of_le q.lt (by rw [z]; exact hb)) (Nat.lt_irrefl _)
  · exact absurd (Nat.lt_of_lt_of_le (Heap.lt_size (I.pin p hp).1) (by rw [z]; exact hb)) (Nat.lt_irrefl _)
structure Turn (P : Program) (w : World) (K : PySem.W.Frag) (tg : Expr) (J : It) (fp : List Addr) (it : Addr) (tn : Nat → Heap → Prop) : Prop where
  mem : it ∈ fp
  obj : ∀ i h, tn i h → ∀ b ∈ fp, ∃ o, h.get? b = some o ∧ ∀ v, o.data ≠ .cell v
  keep : ∀ i h h', tn i h → (∀ b ∈ fp, ∀ o, h.get? b = some o → h'.get? b = some o) → tn i h'
  item : ∀ (X : Cx), X.prog = P → X.w = w → X.K = K → X.calm = true → ∀ (i : Nat) (pins : List (Addr × Obj)) (s : Shared) (σ : St) (H : Hp) (E : Value → Shared → Prop), Inv X pins σ H s → (∀ b ∈ fp, FpOk X pins H b) → tn i s.heap → J.go i H →
    wpAny (model P w) X.A (pyNext (.ref it)) (fun r s1 => ∃ u, r = some u ∧
      wpAny (model P w) X.A (letOwnedTupleGo tg (.ref it) u) (fun _ s2 => ∃ x H', Inv X pins σ H' s2 ∧ RelV x u ∧ J.yld i H x H' ∧ tn (i + 1) s2.heap ∧ ∀ b ∈ fp, H' b = none) E s1) E s
  done : ∀ (X : Cx), X.prog = P → X.w = w → X.K = K → X.calm = true → ∀ (i : Nat) (pins : List (Addr × Obj)) (s : Shared) (σ : St) (H : Hp) (E : Value → Shared → Prop), Inv X pins σ H s → (∀ b ∈ fp, FpOk X pins H b) → tn i s.heap → J.stop i H →
    wpAny (model P w) X.A (pyNext (.ref it)) (fun r s1 => r = none ∧ Inv X pins σ H s1) E s
  self : ∀ (A : Around) (i : Nat) (s : Shared) (Q : Value → Shared → Prop) (E : Value → Shared → Prop), tn i s.heap → Q (.ref it) s → wpAny (model P w) A (pyIter (.ref it)) Q E s
abbrev TI := St → Hp → (It → Hp → Prop) → Prop
/-- an iterator has come -/
def PIE (X : Cx) (pins : List (Addr × Obj)) (σ : St) (tg : Expr) (R : It → Hp → Prop) (itv : Value) (s2 : Shared) : Prop :=
  ∃ (it : Addr) (fp : List Addr) (tn : Nat → Heap → Prop) (J : It) (H' : Hp), itv = .ref it ∧ Inv X pins σ H' s2 ∧ Turn X.prog X.w X.K tg J fp it tn ∧ tn 0 s2.heap ∧ (∀ b ∈ fp, FpOk X pins H' b) ∧ R J H'
def PI (X : Cx) (tg iter : Expr) (wi : TI) : Prop :=
  ∀ (pins : List (Addr × Obj)) (s : Shared) (σ : St) (H : Hp) (R : It → Hp → Prop), Inv X pins σ H s → wi σ H R →
    wpAny (model X.prog X.w) X.A (eval iter X.env) (fun v s1 => wpAny (model X.prog X.w) X.A (pyIter v) (PIE X pins σ tg R) X.xe s1) X.xe s

/-- the step ahead of the store is nothing for an iterator that keeps no tuple -/
theorem go_of {M : Model} {A : Around} {E : Value → Shared → Prop} {s : Shared} {tg : Expr} {it : Addr} {u : Value} {o : Obj} {n : String} {vs : Array Value} {Q : Unit → Shared → Prop} (ho : s.heap.get? it = some o) (hc : o.cls = .type n) (hd : o.data = .fields vs)
    (hn : ["enumerate", "zip", "dict_itemiterator", "dict_reverseitemiterator", "odict_iterator", "itertools.zip_longest", "itertools.pairwise"].contains n = false) (hQ : Q () s) : wpAny M A (letOwnedTupleGo tg (.ref it) u) Q E s := by
  unfold letOwnedTupleGo
  cases tg <;> first
    | exact wpAny_pure hQ
    | (cases u <;> first
        | exact wpAny_pure hQ
        | (refine wpAny_bind (wpAny_load ho ?_)
           rw [hc, hd]
           show wpAny M A (if (["enumerate", "zip", "dict_itemiterator", "dict_reverseitemiterator", "odict_iterator", "itertools.zip_longest", "itertools.pairwise"].contains n && vs[0]? == some (rawInt _)) = true then _ else _) Q E s
           rw [if_neg (by intro h; rw [hn, Bool.false_and] at h; cases h)]
           exact wpAny_pure hQ))

/-- the list at a, as it stands at each turn (a loop may append to it) -/
def Itl (K : PySem.W.Frag) (a : Addr) : It :=
  ⟨fun i H => ∃ xs x, SqL K H a xs ∧ xs[i]? = some x, fun i H x H' => H' = H ∧ ∀ xs, SqL K H a xs → xs[i]? = some x, fun i H => ∃ xs, SqL K H a xs ∧ xs.length ≤ i⟩
def Itt (K : PySem.W.Frag) (a : Addr) : It :=
  ⟨fun i H => ∃ xs x, SqT K H a xs ∧ xs[i]? = some x, fun i H x H' => H' = H ∧ ∀ xs, SqT K H a xs → xs[i]? = some x, fun i H => ∃ xs, SqT K H a xs ∧ xs.length ≤ i⟩
/-- lo, lo + 1, .. (n of them) -/
def Itr (lo : Int) (n : Nat) : It := ⟨fun i _ => i < n, fun i H x H' => H' = H ∧ x = .int (lo + i), fun i _ => n ≤ i⟩
theorem turn_list {P : Program} {w : World} {K : PySem.W.Frag} {tg : Expr} (a it : Addr) : Turn P w K tg (Itl K a) [it] it (fun i h => h.IsListIter it a i) where
  mem := by simp
  obj := fun i h st b hb => by
    have e : b = it := by simpa using hb
    subst e
    obtain ⟨o, e, c, d⟩ := st
    exact ⟨o, e, fun v z => by rw [d] at z; cases z⟩
  keep := fun i h h' st k => st.at fun o e => k it (by simp) o e
  item := by
    intro X hP hw hK hc i pins s σ H E I hf st hg
    subst hP hw hK
    obtain ⟨xs, x, hq, hx⟩ := hg
    obtain ⟨its, rv, p, hz⟩ := I.list hq
    obtain ⟨u, hu, ru⟩ := rv.get hx
    obtain ⟨f0, f1, f2, f3, f4, f5⟩ := hf it (by simp)
    refine wpAny_pyNext_list_item st p.isList (x := u) (by simpa using hu) fun h' st' sb => ?_
    have I1 : Inv X pins σ H { s with heap := h' } := I.turned (t' := s.toks) (fun b o hb e => (sb.2 b hb).trans e) f0 f1 f3 f4 f5
    obtain ⟨o, e, c, d⟩ := id st'
    exact ⟨u, rfl, go_of (s := { s with heap := h' }) e c d (by decide) ⟨x, H, I1, ru, ⟨rfl, fun ys hy => by rw [I.list_inj hy hq]; exact hx⟩, st', fun b hb => (hf b hb).1⟩⟩
  done := by
    intro X hP hw hK hc i pins s σ H E I hf st hg
    subst hP hw hK
    obtain ⟨xs, hq, hx⟩ := hg
    obtain ⟨its, rv, p, hz⟩ := I.list hq
    obtain ⟨f0, f1, f2, f3, f4, f5⟩ := hf it (by simp)
    have hl := rv.length
    exact wpAny_pyNext_list_end (I.ok.hd hc) st p.isList (by simp; omega) fun h' eb => ⟨rfl, I.turned (t' := s.toks) (fun b o hb e => eb b o hb e) f0 f1 f3 f4 f5⟩
  self := fun _ _ _ _ _ st h => wpAny_pyIter_listiter st h
theorem turn_tuple {P : Program} {w : World} {K : PySem.W.Frag} {tg : Expr} (a it : Addr) : Turn P w K tg (Itt K a) [it] it (fun i h => h.IsTupleIter it a i) where
  mem := by simp
  obj := fun i h st b hb => by
    have e : b = it := by simpa using hb
    subst e
    obtain ⟨o, e, c, d⟩ := st
    exact ⟨o, e, fun v z => by rw [d] at z; cases z⟩
  keep := fun i h h' st k => st.at fun o e => k it (by simp) o e
  item := by
    intro X hP hw hK hc i pins s σ H E I hf st hg
    subst hP hw hK
    obtain ⟨xs, x, hq, hx⟩ := hg
    obtain ⟨its, rv, p, hz⟩ := I.tuple hq
    obtain ⟨u, hu, ru⟩ := rv.get hx
    obtain ⟨f0, f1, f2, f3, f4, f5⟩ := hf it (by simp)
    refine wpAny_pyNext_tuple_item st (show s.heap.IsTuple a its.toArray from p) (x := u) (by simpa using hu) fun h' st' sb => ?_
    have I1 : Inv X pins σ H { s with heap := h' } := I.turned (t' := s.toks) (fun b o hb e => (sb.2 b hb).trans e) f0 f1 f3 f4 f5
    obtain ⟨o, e, c, d⟩ := id st'
    exact ⟨u, rfl, go_of (s := { s with heap := h' }) e c d (by decide) ⟨x, H, I1, ru, ⟨rfl, fun ys hy => by rw [I.tuple_inj hy hq]; exact hx⟩, st', fun b hb => (hf b hb).1⟩⟩
  done := by
    intro X hP hw hK hc i pins s σ H E I hf st hg
    subst hP hw hK
    obtain ⟨xs, hq, hx⟩ := hg
    obtain ⟨its, rv, p, hz⟩ := I.tuple hq
    obtain ⟨f0, f1, f2, f3, f4, f5⟩ := hf it (by simp)
    have hl := rv.length
    exact wpAny_pyNext_tuple_end (I.ok.hd hc) st (show s.heap.IsTuple a its.toArray from p) (by simp; omega) fun h' eb => ⟨rfl, I.turned (t' := s.toks) (fun b o hb e => eb b o hb e) f0 f1 f3 f4 f5⟩
  self := fun _ _ _ _ _ st h => wpAny_pyIter_tupleiter st h
theorem turn_range {P : Program} {w : World} {K : PySem.W.Frag} {tg : Expr} (it : Addr) (lo : Int) (n : Nat) : Turn P w K tg (Itr lo n) [it] it (fun i h => IsRangeIter h it (lo + (i : Nat) * 1) ((n : Int) - (i : Nat)) 1) where
  mem := by simp
  obj := fun i h st b hb => by
    have e : b = it := by simpa using hb
    subst e
    exact ⟨_, st, fun v z => by
      have z' : Data.fields _ = Data.cell v := z
      cases z'⟩
  keep := fun i h h' st k => k it (by simp) _ st
  item := by
    intro X hP hw hK hc i pins s σ H E I hf st hg
    subst hP hw hK
    obtain ⟨f0, f1, f2, f3, f4, f5⟩ := hf it (by simp)
    have W := Walks.range (prog := X.prog) (w := X.w) (I.ok.hd hc) it lo 1 n
    refine W.item i s _ _ hg st fun v h' tk hv st' kk => ?_
    obtain ⟨t, rfl⟩ := hv
    have I1 : Inv X pins σ H { s with heap := h', toks := tk } := I.turned (fun b o hb e => kk b o (by simpa using hb) e) f0 f1 f3 f4 f5
    refine ⟨_, rfl, go_of (s := { s with heap := h', toks := tk }) (n := "range_iterator") st' rfl rfl (by decide) ⟨.int (lo + i), H, I1, ⟨t, ?_⟩, ⟨rfl, rfl⟩, st', fun b hb => (hf b hb).1⟩⟩
    rw [Int.mul_one]
  done := by
    intro X hP hw hK hc i pins s σ H E I hf st hg
    subst hP hw hK
    obtain ⟨f0, f1, f2, f3, f4, f5⟩ := hf it (by simp)
    exact wpAny_pyNext_range_end (I.ok.hd hc) st (by have : n ≤ i := hg; omega) fun h' eb => ⟨rfl, I.turned (t' := s.toks) (fun b o hb e => eb b o hb e) f0 f1 f3 f4 f5⟩
  self := fun _ _ _ _ _ st h => wpAny_pyIter_rangeiter st h
end L2

namespace L2
open PySem PySem.Spec PyProof.Rows
section
variable {X : Cx} {tg : Expr}
def iList (K : PySem.W.Frag) (tl : TE) : TI := fun σ H R => tl σ H fun x H1 => ∃ a, x = .ref a ∧ (∃ xs, SqL K H1 a xs) ∧ R (Itl K a) H1
def iTup (K : PySem.W.Frag) (tl : TE) : TI := fun σ H R => tl σ H fun x H1 => ∃ a, x = .ref a ∧ (∃ xs, SqT K H1 a xs) ∧ R (Itt K a) H1
theorem pi_list {l : Expr} {tl : TE} (hl : PE X l tl) : PI X tg l (iList X.K tl) := by
  intro pins s σ H R I h
  refine thn (hl pins s σ H _ I h) fun v s1 ⟨x, H1, I1, r1, q1⟩ => ?_
  obtain ⟨a, e, ⟨xs, hq⟩, q⟩ := q1
  subst e
  cases r1
  obtain ⟨its, rv, p, hz⟩ := I1.list hq
  refine wpAny_pyIter_list p.isList ?_
  refine ⟨s1.heap.objs.size, [s1.heap.objs.size], _, _, H1, rfl, I1.kept (t' := s1.toks) fun b o e => Heap.get?_push_of_some _ e, turn_list a _, ⟨_, Heap.get?_push_size _ rfl, rfl, rfl⟩, fun b hb => ?_, q⟩
  have e : b = s1.heap.objs.size := by simpa using hb
  subst e
  exact I1.fpOk (Nat.le_refl _) (I1.hok.fresh (Nat.le_refl _))
theorem pi_tup {l : Expr} {tl : TE} (hl : PE X l tl) : PI X tg l (iTup X.K tl) := by
  intro pins s σ H R I h
  refine thn (hl pins s σ H _ I h) fun v s1 ⟨x, H1, I1, r1, q1⟩ => ?_
  obtain ⟨a, e, ⟨xs, hq⟩, q⟩ := q1
  subst e
  cases r1
  obtain ⟨its, rv, p, hz⟩ := I1.tuple hq
  refine wpAny_pyIter_tuple (show s1.heap.IsTuple a its.toArray from p) ?_
  refine ⟨s1.heap.objs.size, [s1.heap.objs.size], _, _, H1, rfl, I1.kept (t' := s1.toks) fun b o e => Heap.get?_push_of_some _ e, turn_tuple a _, ⟨_, Heap.get?_push_size _ rfl, rfl, rfl⟩, fun b hb => ?_, q⟩
  have e : b = s1.heap.objs.size := by simpa using hb
  subst e
  exact I1.fpOk (Nat.le_refl _) (I1.hok.fresh (Nat.le_refl _))
/-- a range object just made, walked -/
theorem range_it {pins : List (Addr × Obj)} {σ : St} {H : Hp} {s : Shared} {R : It → Hp → Prop} {E : Value → Shared → Prop} {lo hi : Int} {t u v : Tok} {tk : Nat} (I : Inv X pins σ H s) (h1 : -(2 ^ 62) ≤ lo) (h2 : lo < 2 ^ 62) (h3 : -(2 ^ 62) ≤ hi) (h4 : hi < 2 ^ 62)
    (q : R (Itr lo (hi - lo).toNat) H) : wpAny (model X.prog X.w) X.A (pyIter (.ref s.heap.objs.size)) (PIE X pins σ tg R) E { s with heap := s.heap.push { cls := .type "range", data := .fields #[.int lo t, .int hi u, .int 1 v] }, toks := tk } := by
  refine wpAny_pyIter_range (IsRange.new ..) (small_one h1 h2 h3 h4) ?_
  have I1 : Inv X pins σ H { s with heap := s.heap.push { cls := .type "range", data := .fields #[.int lo t, .int hi u, .int 1 v] }, toks := tk } := I.kept fun b o e => Heap.get?_push_of_some _ e
  refine ⟨(s.heap.push { cls := .type "range", data := .fields #[.int lo t, .int hi u, .int 1 v] }).objs.size, [(s.heap.push { cls := .type "range", data := .fields #[.int lo t, .int hi u, .int 1 v] }).objs.size], _, _, H, rfl,
    I1.kept (t' := tk) fun b o e => Heap.get?_push_of_some _ e, turn_range _ lo (hi - lo).toNat, ?_, fun b hb => ?_, q⟩
  · have e1 : lo + ((0 : Nat) : Int) * 1 = lo := by simp
    have e2 : (((hi - lo).toNat : Nat) : Int) - ((0 : Nat) : Int) = Builtin.Range.rangeSize lo hi 1 := by rw [rangeSize_one]; split <;> omega
    show IsRangeIter _ _ (lo + ((0 : Nat) : Int) * 1) ((((hi - lo).toNat : Nat) : Int) - ((0 : Nat) : Int)) 1
    rw [e1, e2]
    exact Heap.get?_push_size _ rfl
  · have e : b = (s.heap.push { cls := .type "range", data := .fields #[.int lo t, .int hi u, .int 1 v] }).objs.size := by simpa using hb
    subst e
    exact I1.fpOk (Nat.le_refl _) (I1.hok.fresh (Nat.le_refl _))
def iRng1 (ta : TA) : TI := fun σ H R => ta σ H fun vs H1 => ∃ j : Int, vs = [.int j] ∧ -(2 ^ 62) ≤ j ∧ j < 2 ^ 62 ∧ R (Itr 0 j.toNat) H1
def iRng2 (ta : TA) : TI := fun σ H R => ta σ H fun vs H1 => ∃ i j : Int, vs = [.int i, .int j] ∧ (-(2 ^ 62) ≤ i ∧ i < 2 ^ 62 ∧ -(2 ^ 62) ≤ j ∧ j < 2 ^ 62) ∧ R (Itr i (j - i).toNat) H1
theorem pi_range1 {a : Expr} {ta : TA} {p pos : Pos} (hg : Gl X "range") (hm : X.mg "range" = none) (ha : PA X [a] ta) (hs : starEach [a] X.env = [(false, eval a X.env)] := by rfl) : PI X tg (.Call (.Name "range" p) [a] [] pos) (iRng1 ta) := by
  intro pins s σ H R I h
  refine Call_ (ld_blt I hg hm boot_range (PyProof.Rows.callWith_type1 (thn (ha pos pins s σ H _ I h) fun us s1 ⟨vs, H1, I1, r1, q1⟩ => ?_) hs rfl))
  obtain ⟨j, e, q1, q2, q⟩ := q1
  subst e
  cases r1 with
  | cons r rr =>
    cases rr
    obtain ⟨t, rfl⟩ := r
    exact call_range_1 (range_it I1 (by omega) (by omega) q1 q2 (by simpa using q))
theorem pi_range2 {a b : Expr} {ta : TA} {p pos : Pos} (hg : Gl X "range") (hm : X.mg "range" = none) (ha : PA X [a, b] ta) (hs : starEach [a, b] X.env = [(false, eval a X.env), (false, eval b X.env)] := by rfl) (hs2 : starEach [b] X.env = [(false, eval b X.env)] := by rfl) :
    PI X tg (.Call (.Name "range" p) [a, b] [] pos) (iRng2 ta) := by
  intro pins s σ H R I h
  refine Call_ (ld_blt I hg hm boot_range (PyProof.Rows.callWith_type1 (thn (ha pos pins s σ H _ I h) fun us s1 ⟨vs, H1, I1, r1, q1⟩ => ?_) (by rw [hs, hs2]) (by rw [hs2]; rfl)))
  obtain ⟨i, j, e, ⟨q1, q2, q3, q4⟩, q⟩ := q1
  subst e
  cases r1 with
  | cons r rr =>
    cases rr with
    | cons r' rr =>
      cases rr
      obtain ⟨t, rfl⟩ := r
      obtain ⟨t', rfl⟩ := r'
      exact call_range_2 (range_it I1 q1 q2 q3 q4 q)

/-- W: the invariant by the turn and a measure; N: what the body is to reach -/
def tFor (wi : TI) (g : TG) (tb : TS) : TS := fun D σ H => wi σ H fun J H1 => ∃ W : Nat → Nat → St → Hp → Prop, (∃ m, W 0 m σ H1) ∧ ∀ i m σ H, W i m σ H →
  (J.stop i H ∧ D.nx σ H) ∨ (J.go i H ∧ ∃ N : St → Hp → Prop, (∀ σ' H', N σ' H' → ∃ m', m' < m ∧ W (i + 1) m' σ' H') ∧ ∀ x H', J.yld i H x H' → g x σ H' fun σ2 H2 => tb { D with nx := N, ct := N, bk := D.nx } σ2 H2)
/-- the records at fp as they stand -/
def pinsAt (fp : List Addr) (h : Heap) : List (Addr × Obj) := fp.filterMap fun b => (h.get? b).map fun o => (b, o)
theorem mem_pinsAt {fp : List Addr} {h : Heap} {b : Addr} {o : Obj} (hb : b ∈ fp) (e : h.get? b = some o) : (b, o) ∈ pinsAt fp h := List.mem_filterMap.mpr ⟨b, hb, by rw [e]; rfl⟩
theorem of_pinsAt {fp : List Addr} {h : Heap} {p : Addr × Obj} (hp : p ∈ pinsAt fp h) : p.1 ∈ fp ∧ h.get? p.1 = some p.2 := by
  obtain ⟨b, hb, e⟩ := List.mem_filterMap.mp hp
  cases q : h.get? b with
  | none => rw [q] at e; cases e
  | some o =>
    rw [q] at e
    have e' : (b, o) = p := Option.some.inj e
    subst e'
    exact ⟨hb, q⟩
theorem Inv.pinned {pins : List (Addr × Obj)} {σ : St} {H : Hp} {s : Shared} {fp : List Addr} (I : Inv X pins σ H s) (hf : ∀ b ∈ fp, FpOk X pins H b) (ho : ∀ b ∈ fp, ∃ o, s.heap.get? b = some o ∧ ∀ v, o.data ≠ .cell v) : Inv X (pins ++ pinsAt fp s.heap) σ H s :=
  I.pins_of fun p hp => (List.mem_append.mp hp).elim (fun z => I.pin p (List.mem_append_right _ z)) fun z => by
    obtain ⟨hb, e⟩ := of_pinsAt z
    obtain ⟨f0, f1, f2, _⟩ := hf p.1 hb
    obtain ⟨o, e', d⟩ := ho p.1 hb
    rw [e] at e'; cases e'
    exact ⟨e, f0, f1, f2, d⟩
theorem Inv.unpinned {pins pl : List (Addr × Obj)} {σ : St} {H : Hp} {s : Shared} (I : Inv X (pins ++ pl) σ H s) : Inv X pins σ H s := I.pins_of fun p hp => I.pin p (List.mem_append_right _ (List.mem_append_left _ hp))
theorem ps_for {iter : Expr} {body : List Stmt} {wi : TI} {g : TG} {tb : TS} {pos : Pos} (hp : PassesOwn (model X.prog X.w) X.A X.env X.xe) (hc : X.calm = true) (hi : PI X tg iter wi) (hg : PG X tg g) (hb : PSs X body tb)
    (hs : ∀ x, foldedSetIterable iter X.env x = pure x := by intro _; rfl) : PS X (.For tg iter body [] pos) (tFor wi g tb) := by
  intro pins s σ H D I h
  refine wpAny_For (thn (hi pins s σ H _ I h) fun v s1 h1 => thn h1 fun itv s2 h2 => ?_) hs
  obtain ⟨it, fp, tn, J, H2, e, I2, T, st2, f2, W, ⟨m0, w0⟩, turn⟩ := h2
  subst e
  -- what stays true of the iterator's objects through the loop
  have stat : ∀ {H' : Hp}, (∀ b ∈ fp, H' b = none) → ∀ b ∈ fp, FpOk X pins H' b := fun hn b hb => ⟨hn b hb, (f2 b hb).2⟩
  refine codeAny_forLoop_any (fun n s' => ∃ i σ' H', Inv X pins σ' H' s' ∧ tn i s'.heap ∧ (∀ b ∈ fp, H' b = none) ∧ W i n σ' H') ?_ m0 ⟨0, σ, H2, I2, st2, fun b hb => (f2 b hb).1, w0⟩
  rintro n s3 ⟨i, σ3, H3, I3, st3, fr3, w3⟩
  rcases turn i n σ3 H3 w3 with ⟨stop, qn⟩ | ⟨go, N, hN, step⟩
  · refine wpAny_passesOwn hp (thn (T.done X rfl rfl rfl hc i pins s3 σ3 H3 X.xe I3 (stat fr3) st3 stop) fun r s4 ⟨hr, I4⟩ => ?_)
    subst hr
    exact wpAny_execs_nil ⟨σ3, H3, I4, qn⟩
  · refine wpAny_passesOwn hp (thn (T.item X rfl rfl rfl hc i pins s3 σ3 H3 X.xe I3 (stat fr3) st3 go) fun r s4 ⟨u, hr, h4⟩ => ?_)
    subst hr
    refine wpAny_passesOwn hp (thn h4 fun _ s5 ⟨x, H5, I5, r5, y5, st5, fr5⟩ => ?_)
    have I5' := I5.pinned (stat fr5) (T.obj _ _ st5)
    refine wpAny_passesOwn hp (thn (hg _ s5 σ3 H5 x u _ I5' r5 (step x H5 y5)) fun _ s6 ⟨σ6, H6, I6, q6⟩ => ?_)
    refine wpAny_passesOwn hp (thn (hb _ s6 σ6 H6 _ I6 q6) fun f s7 q7 => ?_)
    have again : ∀ {σ7 : St} {H7 : Hp}, Inv X (pins ++ pinsAt fp s5.heap) σ7 H7 s7 → N σ7 H7 → ∃ m, m < n ∧ ∃ i σ' H', Inv X pins σ' H' s7 ∧ tn i s7.heap ∧ (∀ b ∈ fp, H' b = none) ∧ W i m σ' H' := fun {σ7 H7} I7 n7 => by
      obtain ⟨m', hm, w7⟩ := hN σ7 H7 n7
      refine ⟨m', hm, i + 1, σ7, H7, I7.unpinned, T.keep _ _ _ st5 fun b hb o e => (I7.pin (b, o) (List.mem_append_right _ (List.mem_append_right _ (mem_pinsAt hb e)))).1, fun b hb => ?_, w7⟩
      obtain ⟨o, e, d⟩ := T.obj _ _ st5 b hb
      exact (I7.pin (b, o) (List.mem_append_right _ (List.mem_append_right _ (mem_pinsAt hb e)))).2.1
    cases f with
    | next => obtain ⟨σ7, H7, I7, n7⟩ := q7; exact again I7 n7
    | cont => obtain ⟨σ7, H7, I7, n7⟩ := q7; exact again I7 n7
    | brk => obtain ⟨σ7, H7, I7, q7⟩ := q7; exact ⟨σ7, H7, I7.unpinned, q7⟩
    | ret v => obtain ⟨x7, σ7, H7, I7, r7, q7⟩ := q7; exact ⟨x7, σ7, H7, I7.unpinned, r7, q7⟩
end

/-- over a list that the body leaves as it is -/
theorem for_list {K : PySem.W.Frag} {a : Addr} {xs : List V} {g : TG} {tb : TS} {D : Ends} {σ : St} {H : Hp} (Pv : Nat → St → Hp → Prop) (h0 : Pv 0 σ H) (hl : ∀ i σ H, i ≤ xs.length → Pv i σ H → SqL K H a xs)
    (hs : ∀ i x σ H, xs[i]? = some x → Pv i σ H → g x σ H fun σ2 H2 => tb { D with nx := Pv (i + 1), ct := Pv (i + 1), bk := D.nx } σ2 H2) (hd : ∀ σ H, Pv xs.length σ H → D.nx σ H) :
    ∃ W : Nat → Nat → St → Hp → Prop, (∃ m, W 0 m σ H) ∧ ∀ i m σ H, W i m σ H →
      ((Itl K a).stop i H ∧ D.nx σ H) ∨ ((Itl K a).go i H ∧ ∃ N : St → Hp → Prop, (∀ σ' H', N σ' H' → ∃ m', m' < m ∧ W (i + 1) m' σ' H') ∧ ∀ x H', (Itl K a).yld i H x H' → g x σ H' fun σ2 H2 => tb { D with nx := N, ct := N, bk := D.nx } σ2 H2) := by
  refine ⟨fun i m σ H => m = xs.length - i ∧ i ≤ xs.length ∧ Pv i σ H, ⟨xs.length, by simp, Nat.zero_le _, h0⟩, ?_⟩
  rintro i m σ H ⟨rfl, hi, p⟩
  have q := hl i σ H hi p
  by_cases hlt : i < xs.length
  · refine .inr ⟨⟨xs, xs[i], q, by simp [hlt]⟩, Pv (i + 1), fun σ' H' p' => ⟨xs.length - (i + 1), by omega, rfl, hlt, p'⟩, fun x H' y => ?_⟩
    obtain ⟨e, y⟩ := y
    subst e
    exact hs i x σ _ (y xs q) p
  · have e : i = xs.length := by omega
    subst e
    exact .inl ⟨⟨xs, q, Nat.le_refl _⟩, hd σ H p⟩
end L2

namespace L2
open PySem PySem.Spec PyProof.Rows

abbrev R2 := V → V → Hp → VK → Prop
/-- a two-place operation on values: f is binaryOp op, inplaceOp op or compareOp op -/
def OpR (X : Cx) (f : Value → Value → Sem Value) (r : R2) : Prop :=
  ∀ (pins : List (Addr × Obj)) (s : Shared) (σ : St) (H : Hp) (x y : V) (v u : Value) (Q : VK), Inv X pins σ H s → RelV x v → RelV y u → r x y H Q →
    wpAny (model X.prog X.w) X.A (f v u) (EP X pins σ Q) X.xe s
/-- a call of a value that is known (a builtin, a type) with values -/
def CallR (X : Cx) (f : Value) (r : List V → Hp → VK → Prop) : Prop :=
  ∀ (pins : List (Addr × Obj)) (s : Shared) (σ : St) (H : Hp) (xs : List V) (us : List Value) (Q : VK), Inv X pins σ H s → Vals xs us → r xs H Q →
    wpAny (model X.prog X.w) X.A (call f us) (EP X pins σ Q) X.xe s
/-- a value's truth -/
def TruR (X : Cx) (r : V → Hp → (Bool → Hp → Prop) → Prop) : Prop :=
  ∀ (pins : List (Addr × Obj)) (s : Shared) (σ : St) (H : Hp) (x : V) (v : Value) (Q : Bool → Hp → Prop), Inv X pins σ H s → RelV x v → r x H Q →
    wpAny (model X.prog X.w) X.A (truthy v) (TP X pins σ Q) X.xe s

def tOp (r : R2) (ta tb : TE) : TE := fun σ H Q => ta σ H fun x H1 => tb σ H1 fun y H2 => r x y H2 Q
/-- ints in, under C, and a value out -/
def rI (C : Int → Int → Prop) (g : Int → Int → V) : R2 := fun x y H Q => ∃ i j, x = .int i ∧ y = .int j ∧ C i j ∧ Q (g i j) H
def rI0 (g : Int → Int → V) : R2 := fun x y H Q => ∃ i j, x = .int i ∧ y = .int j ∧ Q (g i j) H
section
variable {X : Cx} {a b c : Expr} {ta tb tc : TE} {pos : Pos}

theorem binT (ha : PE X a ta) (hb : PE X b tb) {pins : List (Addr × Obj)} {s : Shared} {σ : St} {H : Hp} {R : V → V → Hp → Prop} (I : Inv X pins σ H s)
    (h : ta σ H fun x H1 => tb σ H1 fun y H2 => R x y H2) {Q : Value → Shared → Prop} {f : Value → Value → Sem Value}
    (hf : ∀ v u s2 x y H2, Inv X pins σ H2 s2 → RelV x v → RelV y u → R x y H2 → wpAny (model X.prog X.w) X.A (f v u) Q X.xe s2) :
    wpAny (model X.prog X.w) X.A (eval a X.env) (fun v s₁ => wpAny (model X.prog X.w) X.A (eval b X.env) (fun u s₂ => wpAny (model X.prog X.w) X.A (f v u) Q X.xe s₂) X.xe s₁) X.xe s := by
  refine thn (ha pins s σ H _ I h) fun v s1 ⟨x, H1, I1, r1, q1⟩ => ?_
  refine thn (hb pins s1 σ H1 _ I1 q1) fun u s2 ⟨y, H2, I2, r2, q2⟩ => ?_
  exact hf v u s2 x y H2 I2 r1 r2 q2

theorem pe_op {op : Operator} {r : R2} (ho : OpR X (binaryOp op) r) (ha : PE X a ta) (hb : PE X b tb) : PE X (.BinOp a op b pos) (tOp r ta tb) := by
  intro pins s σ H Q I h
  exact wpAny_BinOp (binT ha hb I h fun v u s2 x y H2 I2 rx ry q => ho pins s2 σ H2 x y v u Q I2 rx ry q)
theorem opI {f : Value → Value → Sem Value} {C : Int → Int → Prop} {g : Int → Int → Int}
    (rule : ∀ (i j : Int) (t u : Tok) (s : Shared) (Q : Value → Shared → Prop) (E : Value → Shared → Prop), C i j → Q (.int (g i j) s.toks) { s with toks := s.toks + 1 } → wpAny (model X.prog X.w) X.A (f (.int i t) (.int j u)) Q E s) :
    OpR X f (rI C fun i j => .int (g i j)) := by
  intro pins s σ H x y v u Q I rx ry h
  obtain ⟨i, j, rfl, rfl, hc, q⟩ := h
  obtain ⟨t, rfl⟩ := rx
  obtain ⟨t', rfl⟩ := ry
  exact rule i j t t' s _ _ hc ⟨.int (g i j), H, I.tok _, ⟨_, rfl⟩, q⟩
theorem opI0 {f : Value → Value → Sem Value} {g : Int → Int → Int}
    (rule : ∀ (i j : Int) (t u : Tok) (s : Shared) (Q : Value → Shared → Prop) (E : Value → Shared → Prop), Q (.int (g i j) s.toks) { s with toks := s.toks + 1 } → wpAny (model X.prog X.w) X.A (f (.int i t) (.int j u)) Q E s) :
    OpR X f (rI0 fun i j => .int (g i j)) := by
  intro pins s σ H x y v u Q I rx ry h
  obtain ⟨i, j, rfl, rfl, q⟩ := h
  obtain ⟨t, rfl⟩ := rx
  obtain ⟨t', rfl⟩ := ry
  exact rule i j t t' s _ _ ⟨.int (g i j), H, I.tok _, ⟨_, rfl⟩, q⟩
theorem opB0 {f : Value → Value → Sem Value} {g : Int → Int → Bool}
    (rule : ∀ (i j : Int) (t u : Tok) (s : Shared) (Q : Value → Shared → Prop) (E : Value → Shared → Prop), Q (.bool (g i j)) s → wpAny (model X.prog X.w) X.A (f (.int i t) (.int j u)) Q E s) :
    OpR X f (rI0 fun i j => .bl (g i j)) := by
  intro pins s σ H x y v u Q I rx ry h
  obtain ⟨i, j, rfl, rfl, q⟩ := h
  obtain ⟨t, rfl⟩ := rx
  obtain ⟨t', rfl⟩ := ry
  exact rule i j t t' s _ _ ⟨.bl (g i j), H, I, rfl, q⟩

def CDiv (i j : Int) : Prop := 0 < j ∧ j < 1073741824
def CMul (i j : Int) : Prop := (-(2 ^ 64) < i ∧ i < 2 ^ 64) ∨ (-(2 ^ 64) < j ∧ j < 2 ^ 64)
theorem CMul.ok {i j : Int} (h : CMul i j) : IntMulOk i j := by
  rcases h with ⟨h1, h2⟩ | ⟨h1, h2⟩
  · exact .of_left (intBits_le_64 h1 h2)
  · exact .of_right (intBits_le_64 h1 h2)
theorem op_add : OpR X (binaryOp .Add) (rI0 fun i j => .int (i + j)) := opI0 fun _ _ _ _ _ _ _ q => add_int q
theorem op_sub : OpR X (binaryOp .Sub) (rI0 fun i j => .int (i - j)) := opI0 fun _ _ _ _ _ _ _ q => sub_int q
theorem op_mul : OpR X (binaryOp .Mult) (rI CMul fun i j => .int (i * j)) := opI fun _ _ _ _ _ _ _ hc q => mul_int q hc.ok
/-- // by a positive divisor -/
theorem op_fdiv : OpR X (binaryOp .FloorDiv) (rI CDiv fun i j => .int (i / j)) := opI fun i j _ _ _ _ _ hc q => by
  have h1 : (0 : Int) < j := hc.1
  have h2 : j < 1073741824 := hc.2
  exact floordiv_int (by omega) (by rw [Int.fdiv_eq_ediv_of_nonneg i (by omega)]; exact q) (.inl (PyProof.noPylong_small (by omega)))
/-- % by a positive divisor of any size -/
theorem op_mod : OpR X (binaryOp .Mod) (rI (fun _ j => 0 < j) fun i j => .int (i % j)) := opI fun i j _ _ _ _ _ hc q => by
  have h1 : (0 : Int) < j := hc
  exact mod_int' (by omega) (by rw [Int.fmod_eq_emod_of_nonneg i (by omega)]; exact q)
end

/-- the scalars that == tells apart as data does -/
def scal : V → V → Bool
  | .non, .non => true | .non, .int _ => true | .int _, .non => true | .non, .bl _ => true | .bl _, .non => true | .non, .str _ => true | .str _, .non => true
  | .int _, .int _ => true | .bl _, .bl _ => true | .str _, .str _ => true | .byt _, .byt _ => true
  | .int _, .str _ => true | .str _, .int _ => true | .bl _, .str _ => true | .str _, .bl _ => true
  | _, _ => false
def rEq : R2 := fun x y H Q => scal x y = true ∧ Q (.bl (decide (x = y))) H
def rNe : R2 := fun x y H Q => scal x y = true ∧ Q (.bl (!decide (x = y))) H

theorem dec_int {i j : Int} : decide (V.int i = V.int j) = (i == j) := by
  rw [Bool.eq_iff_iff]
  simp
theorem dec_bl {i j : Bool} : decide (V.bl i = V.bl j) = (i == j) := by
  rw [Bool.eq_iff_iff]
  simp
theorem dec_str {i j : Str} : decide (V.str i = V.str j) = (i == j) := by
  rw [Bool.eq_iff_iff]
  simp
theorem dec_byt {i j : Array UInt8} : decide (V.byt i = V.byt j) = (i.toList == j.toList) := by
  rw [Bool.eq_iff_iff]
  cases i
  cases j
  simp

section
variable {X : Cx} {a b c : Expr} {ta tb tc : TE} {pos : Pos}
theorem fin_bl {pins : List (Addr × Obj)} {σ : St} {H : Hp} {s : Shared} {Q : VK} {k k' : Bool} (I : Inv X pins σ H s) (q : Q (.bl k) H) (e : k = k') : EP X pins σ Q (.bool k') s := by
  subst e
  exact ⟨.bl k, H, I, rfl, q⟩
theorem op_eq : OpR X (compareOp .Eq) rEq := by
  intro pins s σ H x y v u Q I rx ry h
  obtain ⟨hs, q⟩ := h
  cases x with
  | non =>
    cases rx
    cases y with
    | non => cases ry; exact PySem.EqNone.eq_none_none (fin_bl I q (by simp))
    | bl j => cases ry; exact PySem.EqNone.eq_none_bool (fin_bl I q (by simp))
    | int j => obtain ⟨t', rfl⟩ := ry; exact PySem.EqNone.eq_none_int (fin_bl I q (by simp))
    | str j => obtain ⟨t', rfl⟩ := ry; exact PySem.EqNone.eq_none_str (fin_bl I q (by simp))
    | _ => exact absurd (show false = true from hs) Bool.false_ne_true
  | bl i =>
    cases rx
    cases y with
    | non => cases ry; exact PySem.EqNone.eq_bool_none (fin_bl I q (by simp))
    | bl j => cases ry; exact eq_bool (fin_bl I q dec_bl)
    | str j => obtain ⟨t', rfl⟩ := ry; exact PySem.EqMixed.eq_bool_str (fin_bl I q (by simp))
    | _ => exact absurd (show false = true from hs) Bool.false_ne_true
  | int i =>
    obtain ⟨t, rfl⟩ := rx
    cases y with
    | non => cases ry; exact PySem.EqNone.eq_int_none (fin_bl I q (by simp))
    | int j => obtain ⟨t', rfl⟩ := ry; exact eq_int (fin_bl I q dec_int)
    | str j => obtain ⟨t', rfl⟩ := ry; exact PySem.EqMixed.eq_int_str (fin_bl I q (by simp))
    | _ => exact absurd (show false = true from hs) Bool.false_ne_true
  | str i =>
    obtain ⟨t, rfl⟩ := rx
    cases y with
    | non => cases ry; exact PySem.EqNone.eq_str_none (fin_bl I q (by simp))
    | bl j => cases ry; exact PySem.EqMixed.eq_str_bool (fin_bl I q (by simp))
    | int j => obtain ⟨t', rfl⟩ := ry; exact PySem.EqMixed.eq_str_int (fin_bl I q (by simp))
    | str j => obtain ⟨t', rfl⟩ := ry; exact eq_str (fin_bl I q dec_str)
    | _ => exact absurd (show false = true from hs) Bool.false_ne_true
  | byt i =>
    obtain ⟨t, rfl⟩ := rx
    cases y with
    | byt j => obtain ⟨t', rfl⟩ := ry; exact PySem.W.eq_bytes (fin_bl I q dec_byt)
    | _ => exact absurd (show false = true from hs) Bool.false_ne_true
  | _ => cases y <;> exact absurd (show false = true from hs) Bool.false_ne_true
theorem op_ne : OpR X (compareOp .NotEq) rNe := by
  intro pins s σ H x y v u Q I rx ry h
  obtain ⟨hs, q⟩ := h
  cases x with
  | non =>
    cases rx
    cases y with
    | non => cases ry; exact PySem.EqNone.ne_none_none (fin_bl I q (by simp))
    | bl j => cases ry; exact PySem.EqNone.ne_none_bool (fin_bl I q (by simp))
    | int j => obtain ⟨t', rfl⟩ := ry; exact PySem.EqNone.ne_none_int (fin_bl I q (by simp))
    | str j => obtain ⟨t', rfl⟩ := ry; exact PySem.EqNone.ne_none_str (fin_bl I q (by simp))
    | _ => exact absurd (show false = true from hs) Bool.false_ne_true
  | bl i =>
    cases rx
    cases y with
    | non => cases ry; exact PySem.EqNone.ne_bool_none (fin_bl I q (by simp))
    | bl j => cases ry; exact ne_bool (fin_bl I q (congrArg not dec_bl))
    | str j => obtain ⟨t', rfl⟩ := ry; exact PySem.EqMixed.ne_bool_str (fin_bl I q (by simp))
    | _ => exact absurd (show false = true from hs) Bool.false_ne_true
  | int i =>
    obtain ⟨t, rfl⟩ := rx
    cases y with
    | non => cases ry; exact PySem.EqNone.ne_int_none (fin_bl I q (by simp))
    | int j => obtain ⟨t', rfl⟩ := ry; exact ne_int (fin_bl I q (congrArg not dec_int))
    | str j => obtain ⟨t', rfl⟩ := ry; exact PySem.EqMixed.ne_int_str (fin_bl I q (by simp))
    | _ => exact absurd (show false = true from hs) Bool.false_ne_true
  | str i =>
    obtain ⟨t, rfl⟩ := rx
    cases y with
    | non => cases ry; exact PySem.EqNone.ne_str_none (fin_bl I q (by simp))
    | bl j => cases ry; exact PySem.EqMixed.ne_str_bool (fin_bl I q (by simp))
    | int j => obtain ⟨t', rfl⟩ := ry; exact PySem.EqMixed.ne_str_int (fin_bl I q (by simp))
    | str j => obtain ⟨t', rfl⟩ := ry; exact ne_str (fin_bl I q (congrArg not dec_str))
    | _ => exact absurd (show false = true from hs) Bool.false_ne_true
  | byt i =>
    obtain ⟨t, rfl⟩ := rx
    cases y with
    | byt j => obtain ⟨t', rfl⟩ := ry; exact PySem.W.ne_bytes (fin_bl I q (congrArg not dec_byt))
    | _ => exact absurd (show false = true from hs) Bool.false_ne_true
  | _ => cases y <;> exact absurd (show false = true from hs) Bool.false_ne_true

theorem op_lt : OpR X (compareOp .Lt) (rI0 fun i j => .bl (decide (i < j))) := opB0 fun _ _ _ _ _ _ _ q => lt_int q
theorem op_le : OpR X (compareOp .LtE) (rI0 fun i j => .bl (decide (i ≤ j))) := opB0 fun _ _ _ _ _ _ _ q => le_int q
theorem op_gt : OpR X (compareOp .Gt) (rI0 fun i j => .bl (decide (j < i))) := opB0 fun _ _ _ _ _ _ _ q => gt_int q
/-- the one string within the other -/
theorem op_in_str : OpR X (compareOp .In) (fun x y H Q => ∃ i j, x = .str i ∧ y = .str j ∧ Q (.bl (!(Builtin.Str.occurrences j i 0 j.length 1).isEmpty)) H) := by
  intro pins s σ H x y v u Q I rx ry h
  obtain ⟨i, j, rfl, rfl, q⟩ := h
  obtain ⟨t, rfl⟩ := rx
  obtain ⟨t', rfl⟩ := ry
  exact in_str (fin_bl I q rfl)

theorem nomark (b : Expr) {op : CmpOp} (h : op ≠ .In := by decide) (h2 : op ≠ .NotIn := by decide) : behindInMarks op b = false := by
  have e1 : (op == CmpOp.In) = false := by cases op <;> first | rfl | exact absurd rfl h
  have e2 : (op == CmpOp.NotIn) = false := by cases op <;> first | rfl | exact absurd rfl h2
  cases b <;> simp [behindInMarks, e1, e2]
/-- a comparison as a value; hm: nomark b, or (for in, not in) by with_unfolding_all rfl -/
theorem pe_cmpR {op : CmpOp} {r : R2} (ho : OpR X (compareOp op) r) (ha : PE X a ta) (hb : PE X b tb) (hm : behindInMarks op b = false) : PE X (.Compare a [op] [b] pos) (tOp r ta tb) := by
  intro pins s σ H Q I h
  exact wpAny_Compare1 (binT ha hb I h fun v u s2 x y H2 I2 rx ry q => ho pins s2 σ H2 x y v u Q I2 rx ry q) hm
/-- a reading of a value as a test -/
def tTest (t : TE) : TT := fun σ H Q => t σ H fun x H' => ∃ k, x = .bl k ∧ Q k H'
theorem pt_cmpR {op : CmpOp} {r : R2} (ho : OpR X (compareOp op) r) (ha : PE X a ta) (hb : PE X b tb) (hm : behindInMarks op b = false) : PT X (.Compare a [op] [b] pos) (tTest (tOp r ta tb)) := by
  intro pins s σ H Q I h
  refine wpAny_isTrue_Compare1 (thn (ha pins s σ H _ I h) fun v s1 ⟨x, H1, I1, r1, q1⟩ => thn (hb pins s1 σ H1 _ I1 q1) fun u s2 ⟨y, H2, I2, r2, q2⟩ =>
    thn (ho pins s2 σ H2 x y v u _ I2 r1 r2 q2) fun c s3 ⟨z, H3, I3, r3, k, e, q3⟩ => ?_) hm
  subst e
  cases r3
  exact wpAny_truthy_bool ⟨H3, I3, q3⟩
/-- a op1 b op2 c -/
def tChain (r r' : R2) (ta tb tc : TE) : TE := fun σ H Q => ta σ H fun x H1 => tb σ H1 fun y H2 => r x y H2 fun z H3 => ∃ k, z = .bl k ∧
  (if k = true then tc σ H3 fun w' H4 => r' y w' H4 Q else Q (.bl false) H3)
theorem pe_chain {op op' : CmpOp} {r r' : R2} (ho : OpR X (compareOp op) r) (ho' : OpR X (compareOp op') r') (ha : PE X a ta) (hb : PE X b tb) (hc : PE X c tc)
    (hm : lastMarks [op, op'] [b, c] = false := by with_unfolding_all rfl) : PE X (.Compare a [op, op'] [b, c] pos) (tChain r r' ta tb tc) := by
  intro pins s σ H Q I h
  refine Compare_chain (thn (ha pins s σ H _ I h) fun v s1 ⟨x, H1, I1, r1, q1⟩ => chain_link (thn (hb pins s1 σ H1 _ I1 q1) fun u s2 ⟨y, H2, I2, r2, q2⟩ =>
    thn (ho pins s2 σ H2 x y v u _ I2 r1 r2 q2) fun d s3 ⟨z, H3, I3, r3, k, e, q3⟩ => ?_)) hm
  subst e
  cases r3
  refine wpAny_truthy_bool ?_
  cases k with
  | false => exact ite_ff ⟨.bl false, H3, I3, rfl, q3⟩
  | true => exact ite_tt (chain_last (thn (hc pins s3 σ H3 _ I3 q3) fun w' s4 ⟨z', H4, I4, r4, q4⟩ => ho' pins s4 σ H4 y z' u w' Q I4 r2 r4 q4))
/-- a value's truth by the abstract heap -/
def TruV (K : PySem.W.Frag) (x : V) (H : Hp) (k : Bool) : Prop :=
  match x with
  | .non => k = false
  | .bl b => k = b
  | .int i => k = (i != 0)
  | .str y => y.length ≤ sizeLine ∧ k = ((y.length : Int) != 0)
  | .byt y => y.size ≤ sizeLine ∧ k = ((y.size : Int) != 0)
  | .ref p => (∃ xs, SqL K H p xs ∧ k = !xs.isEmpty) ∨ (∃ xs, SqT K H p xs ∧ k = !xs.isEmpty) ∨ ∃ kvs, H p = some (.dK kvs) ∧ k = !kvs.isEmpty
  | _ => False
theorem isEmpty_kv {κ : Type} {kvs : List (κ × V)} {vs : List (κ × Value)} (r : KV kvs vs) : (!vs.isEmpty) = !kvs.isEmpty := by
  cases r <;> rfl
theorem isEmpty_of {xs : List V} {its : List Value} (r : Vals xs its) : (!its.toArray.isEmpty) = !xs.isEmpty := by
  cases r <;> simp
theorem line63 : (sizeLine : Nat) < 2 ^ 63 := by rw [sizeLine_eq]; decide
theorem tru_ok : TruR X (fun x H Q => ∃ k, TruV X.K x H k ∧ Q k H) := by
  intro pins s σ H x v Q I rx h
  obtain ⟨k, e, q⟩ := h
  have hl := line63
  have hs : sizeLine = 16777216 := sizeLine_eq
  cases x with
  | non =>
    cases rx
    have e' : k = false := e
    subst e'
    exact truthy_none ⟨H, I, q⟩
  | bl b =>
    cases rx
    have e' : k = b := e
    subst e'
    exact wpAny_truthy_bool ⟨H, I, q⟩
  | int i =>
    obtain ⟨t, rfl⟩ := rx
    have e' : k = (i != 0) := e
    subst e'
    exact PySem.P.truthy_int ⟨H, I, q⟩
  | str y =>
    obtain ⟨t, rfl⟩ := rx
    obtain ⟨hy, e'⟩ : y.length ≤ sizeLine ∧ k = ((y.length : Int) != 0) := e
    subst e'
    exact PySem.P.truthy_str (by omega) ⟨H, I.tok _, q⟩
  | byt y =>
    obtain ⟨t, rfl⟩ := rx
    obtain ⟨hy, e'⟩ : y.size ≤ sizeLine ∧ k = ((y.size : Int) != 0) := e
    subst e'
    exact PySem.W.truthy_bytes (by omega) ⟨H, I.tok _, q⟩
  | ref p =>
    cases rx
    have e' : (∃ xs, SqL X.K H p xs ∧ k = !xs.isEmpty) ∨ (∃ xs, SqT X.K H p xs ∧ k = !xs.isEmpty) ∨ ∃ kvs, H p = some (.dK kvs) ∧ k = !kvs.isEmpty := e
    rcases e' with ⟨xs, hx, e'⟩ | ⟨xs, hx, e'⟩ | ⟨kvs, hx, e'⟩
    · subst e'
      obtain ⟨its, r, pl, hz⟩ := I.list hx
      have hlen := r.length
      exact wpAny_truthy_list pl.isList (by simp only [List.size_toArray]; omega) ⟨H, I.tok _, by rw [isEmpty_of r]; exact q⟩
    · subst e'
      obtain ⟨its, r, pl, hz⟩ := I.tuple hx
      have hlen := r.length
      exact truthy_tuple pl (by simp only [List.size_toArray]; omega) ⟨H, I.tok _, by rw [isEmpty_of r]; exact q⟩
    · subst e'
      obtain ⟨hz, hS, vs, r, m⟩ : kvs.length ≤ sizeLine ∧ (p == sysModules) = false ∧ ∃ vs, KV kvs vs ∧ s.heap.DictOf (mixKind X.prog X.w) p vs := I.hok p _ hx
      have hlen : kvs.length = vs.length := Paired.length r
      exact wpAny_truthy_dict hS m (by omega) ⟨H, I.tok _, by rw [isEmpty_kv r]; exact q⟩
  | _ => exact (show False from e).elim
/-- any expression whose test is its value's truth (a name, a call, a subscript, a field ..: he by fun _ => rfl) -/
theorem pt_truth (ha : PE X a ta) (he : ∀ whole, isTrue a X.env whole = (do let v ← whole; standAt a.pos; holding [v] (truthy v))) :
    PT X a (fun σ H Q => ta σ H fun x H' => ∃ k, TruV X.K x H' k ∧ Q k H') := by
  intro pins s σ H Q I h
  exact isTrue_plain (thn (ha pins s σ H _ I h) fun v s1 ⟨x, H1, I1, r1, q1⟩ => tru_ok pins s1 σ H1 x v Q I1 r1 q1) (he _)

theorem op_add_str : OpR X (binaryOp .Add) (fun x y H Q => ∃ i j, x = .str i ∧ y = .str j ∧ i.length + j.length ≤ sizeLine ∧ Q (.str (i ++ j)) H) := by
  intro pins s σ H x y v u Q I rx ry h
  obtain ⟨i, j, rfl, rfl, hz, q⟩ := h
  obtain ⟨t, rfl⟩ := rx
  obtain ⟨t', rfl⟩ := ry
  exact add_str (fun t' tk => ⟨.str (i ++ j), H, I.tok _, ⟨_, rfl⟩, q⟩) hz
theorem vals1 {x : V} {us : List Value} (r : Vals [x] us) : ∃ u, us = [u] ∧ RelV x u := by
  cases r with
  | cons r1 r2 => cases r2; exact ⟨_, rfl, r1⟩
theorem vals2 {x y : V} {us : List Value} (r : Vals [x, y] us) : ∃ u w', us = [u, w'] ∧ RelV x u ∧ RelV y w' := by
  cases r with
  | cons r1 r2 =>
    cases r2 with
    | cons r3 r4 => cases r4; exact ⟨_, _, rfl, r1, r3⟩
theorem call_max2 (hc : X.calm = true) : CallR X (.builtin "max") (fun xs H Q => ∃ i j, xs = [.int i, .int j] ∧ Q (.int (if j > i then j else i)) H) := by
  intro pins s σ H xs us Q I r h
  obtain ⟨i, j, rfl, q⟩ := h
  obtain ⟨u, w', rfl, ⟨t, rfl⟩, ⟨t', rfl⟩⟩ := vals2 r
  refine max_two_ints (I.ok.hd hc) fun h' tk k => ⟨_, H, I.kept k, ?_, q⟩
  by_cases hj : j > i
  · rw [if_pos hj, if_pos hj]; exact ⟨_, rfl⟩
  · rw [if_neg hj, if_neg hj]; exact ⟨_, rfl⟩
theorem call_min2 (hc : X.calm = true) : CallR X (.builtin "min") (fun xs H Q => ∃ i j, xs = [.int i, .int j] ∧ Q (.int (if j < i then j else i)) H) := by
  intro pins s σ H xs us Q I r h
  obtain ⟨i, j, rfl, q⟩ := h
  obtain ⟨u, w', rfl, ⟨t, rfl⟩, ⟨t', rfl⟩⟩ := vals2 r
  refine min_two_ints (I.ok.hd hc) fun h' tk k => ⟨_, H, I.kept k, ?_, q⟩
  by_cases hj : j < i
  · rw [if_pos hj, if_pos hj]; exact ⟨_, rfl⟩
  · rw [if_neg hj, if_neg hj]; exact ⟨_, rfl⟩
/-- len of a str, a bytes, a list, a tuple -/
def LenV (K : PySem.W.Frag) (x : V) (H : Hp) (n : Nat) : Prop :=
  match x with
  | .str y => y.length ≤ sizeLine ∧ n = y.length
  | .byt y => y.size ≤ sizeLine ∧ n = y.size
  | .ref p => (∃ xs, SqL K H p xs ∧ n = xs.length) ∨ ∃ xs, SqT K H p xs ∧ n = xs.length
  | _ => False
theorem call_len : CallR X (.builtin "len") (fun xs H Q => ∃ x n, xs = [x] ∧ LenV X.K x H n ∧ Q (.int n) H) := by
  intro pins s σ H xs us Q I r h
  obtain ⟨x, n, rfl, e, q⟩ := h
  obtain ⟨u, rfl, rx⟩ := vals1 r
  have hl := line63
  have hs : sizeLine = 16777216 := sizeLine_eq
  cases x with
  | str y =>
    obtain ⟨t, rfl⟩ := rx
    obtain ⟨hy, e'⟩ : y.length ≤ sizeLine ∧ n = y.length := e
    subst e'
    exact len_str (by omega) ⟨.int _, H, I.tok _, ⟨_, rfl⟩, q⟩
  | byt y =>
    obtain ⟨t, rfl⟩ := rx
    obtain ⟨hy, e'⟩ : y.size ≤ sizeLine ∧ n = y.size := e
    subst e'
    exact PySem.W.len_bytes (by omega) ⟨.int _, H, I.tok _, ⟨_, rfl⟩, q⟩
  | ref p =>
    cases rx
    have e' : (∃ xs, SqL X.K H p xs ∧ n = xs.length) ∨ ∃ xs, SqT X.K H p xs ∧ n = xs.length := e
    rcases e' with ⟨xs, hx, e'⟩ | ⟨xs, hx, e'⟩
    · subst e'
      obtain ⟨its, r', pl, hz⟩ := I.list hx
      have hlen := r'.length
      exact Calls.call_len_list pl.isList (by simp only [List.size_toArray]; omega) ⟨.int xs.length, H, I.tok _, ⟨_, by simp only [List.size_toArray]; rw [hlen]⟩, q⟩
    · subst e'
      obtain ⟨its, r', pl, hz⟩ := I.tuple hx
      have hlen := r'.length
      exact len_tuple pl (by simp only [List.size_toArray]; omega) ⟨.int xs.length, H, I.tok _, ⟨_, by simp only [List.size_toArray]; rw [hlen]⟩, q⟩
  | _ => exact (show False from e).elim
end
end L2

namespace L2
open PySem PySem.Spec PyProof.Rows

structure ObjM (h : Heap) (x dx C : Addr) (mA : Str → Option Value) : Prop where
  obj : h.get? x = some (PySem.W.instObj C dx)
  ns : h.Ns1 dx mA
  ne : dx ≠ x

theorem lookIn_ns {h : Heap} {dx : Addr} {mA : Str → Option Value} (n : h.Ns1 dx mA) : ∃ od, h.get? dx = some od ∧ ∀ name, PySem.W.lookIn name od = some (mA name) := by
  obtain ⟨o, es, ep, ho, hd, hk, _, hm⟩ := n
  refine ⟨o, ho, fun name => ?_⟩
  have e := hm name
  unfold nsFind findBy at e
  rw [← Array.find?_toList] at e
  unfold PySem.W.lookIn
  rw [hd]
  dsimp only
  split
  · rename_i y q
    rw [q] at e
    exact congrArg some e
  · rename_i q
    rw [q] at e
    have a : es.toList.any (·.refKey) = false := by
      rw [List.any_eq_false]
      intro y hy
      obtain ⟨z, t, hkey⟩ := hk y (Array.mem_toList_iff.mp hy)
      simp [DictEntry.refKey, hkey]
    have a' : ¬ es.toList.any (·.refKey) = true := by rw [a]; exact Bool.false_ne_true
    rw [if_neg a']
    exact congrArg some e

theorem ObjM.look {h : Heap} {x dx C : Addr} {mA : Str → Option Value} (I : ObjM h x dx C mA) : ∃ od, PySem.W.InstAt h x (PySem.W.instObj C dx) C (some od) ∧ ∀ name, PySem.W.lookIn name od = some (mA name) :=
  let ⟨od, ho, hl⟩ := lookIn_ns I.ns
  ⟨od, ⟨I.obj, rfl, rfl, ho⟩, hl⟩

section
variable {prog : Program} {w : World} {A : Around} {E : Value → Shared → Prop} {s : Shared} {K : PySem.W.Frag} {x dx C f : Addr} {mA : Str → Option Value} {name : Str} {v : Value}

end

section
variable {P : Program} {w : World} {H H' : Hp} {h h' : Heap} {a C dx : Addr} {fs fs' : List (Str × V)}
theorem ins_get (hok : HOk P w H h) (e : H a = some (.ins C dx fs)) : ∃ mA, ObjM h a dx C mA ∧ (∀ f, RelO (fs.lookup f) (mA f)) ∧ PySem.Within mA (fs.map (·.1)) ∧ fs.length ≤ 1000 ∧ H dx = some (.own a) := by
  obtain ⟨d, z, ne, ob, mA, n, r, q⟩ := (show ObjOk P w H h a (.ins C dx fs) from hok a _ e)
  exact ⟨mA, ⟨ob, n, ne⟩, r, q, z, d⟩
end

structure Cls (K : PySem.W.Frag) (C : Addr) : Prop where
  pg : PySem.W.plainGet K C Str.empty = true
  hd : PySem.W.hasDictIn K C = true
  po : PySem.W.plainOver K C = true
  sa : PySem.W.findIn K (.ref C) "__setattr__" = some (some (.builtin "object.__setattr__"))
theorem Cls.get {K : PySem.W.Frag} {C : Addr} (c : Cls K C) (f : Str) : PySem.W.plainGet K C f = true := c.pg
section
variable {X : Cx} {pins : List (Addr × Obj)} {σ : St} {H : Hp} {s : Shared} {a C dx : Addr} {fs : List (Str × V)} {f : Str} {v : V} {A : Around} {E : Value → Shared → Prop}

end

section
variable {X : Cx} {o e value : Expr} {f : Str} {pos pos' tpos : Pos} {ta tv : TE}
end

section
variable {X : Cx} {pins : List (Addr × Obj)} {σ : St} {H : Hp} {s : Shared} {A : Around} {E : Value → Shared → Prop} {Q : Value → Shared → Prop} {c : Value} {b : Bool}
/-- the type of a value, as the fragment's deciders take it; for an instance its class -/
inductive TyOf (K : PySem.W.Frag) (H : Hp) : V → Value → Prop where
  | non : TyOf K H .non (.type "NoneType")
  | bl (x : Bool) : TyOf K H (.bl x) (.type "bool")
  | int (i : Int) : TyOf K H (.int i) (.type "int")
  | str (x : Str) : TyOf K H (.str x) (.type "str")
  | flt (x : UInt64) : TyOf K H (.flt x) (.type "float")
  | lst {a : Addr} {xs : List V} (e : H a = some (.lst xs)) : TyOf K H (.ref a) (.type "list")
  | frz {a : Addr} {o : Obj} {xs : List V} (e : H a = some (.frz o (.lst xs))) : TyOf K H (.ref a) (.type "list")
  | tup {a : Addr} {xs : List V} (e : H a = some (.tup xs)) : TyOf K H (.ref a) (.type "tuple")
  | dK {a : Addr} {kvs : List (Key × V)} (e : H a = some (.dK kvs)) : TyOf K H (.ref a) (.type "dict")
  | dT {a : Addr} {kvs : List (List Key × V)} (e : H a = some (.dT kvs)) : TyOf K H (.ref a) (.type "dict")
  | ins {a C dx : Addr} {fs : List (Str × V)} (e : H a = some (.ins C dx fs)) (cl : Cls K C) (ha : PySem.W.findIn K (.ref C) "__class__" = some (some (.builtin "object.__class__")))
      (hn : PySem.W.specialIn K (.builtin "object.__class__") "__get__" = some (some (.builtin "getset_descriptor.__get__"))) (htk : PySem.W.takesIn K (.builtin "object.__class__") = some true)
      (hm : PySem.W.mroIn K C (.type "object") = some true) : TyOf K H (.ref a) (.ref C)
/-- isinstance(x, c) for one class c, a built-in or an own one: kitOne's answer -/
theorem isinst_ok {x : V} {u t : Value} (I : Inv X pins σ H s) (rx : RelV x u) (ty : TyOf X.K H x t) (e : PySem.W.kitOne X.K t c = some b) (h : ∀ tk, Q (.bool b) { s with toks := tk }) :
    wpAny (model X.prog X.w) A (call (.builtin "isinstance") [u, c]) Q E s := by
  cases ty with
  | non => cases (show u = Value.none from rx); exact PySem.W.kia_one PySem.W.kitx_none I.kIn True.intro e (fun z => nomatch z) h
  | bl y => cases (show u = Value.bool y from rx); exact PySem.W.kia_one PySem.W.kitx_bool I.kIn True.intro e (fun z => nomatch z) h
  | int i => obtain ⟨t, q⟩ := (show ∃ t, u = Value.int i t from rx); cases q; exact PySem.W.kia_one PySem.W.kitx_int I.kIn True.intro e (fun z => nomatch z) h
  | str y => obtain ⟨t, q⟩ := (show ∃ t, u = Value.str y t from rx); cases q; exact PySem.W.kia_one PySem.W.kitx_str I.kIn True.intro e (fun z => nomatch z) h
  | flt y => obtain ⟨t, q⟩ := (show ∃ t, u = Value.float y t from rx); cases q; exact PySem.W.kia_one PySem.W.kitx_float I.kIn True.intro e (fun z => nomatch z) h
  | @lst a xs ea =>
    cases (show u = Value.ref a from rx)
    obtain ⟨_, _, n, _, h1⟩ := (show ObjOk X.prog X.w H s.heap a (.lst xs) from I.hok a _ ea)
    exact PySem.W.kia_one PySem.W.kitx_list I.kIn ⟨_, h1, rfl⟩ e (fun z => nomatch z) h
  | @frz a ob xs ea =>
    cases (show u = Value.ref a from rx)
    obtain ⟨_, _, _, n, _, h1⟩ := (show ObjOk X.prog X.w H s.heap a (.frz ob (.lst xs)) from I.hok a _ ea)
    exact PySem.W.kia_one PySem.W.kitx_list I.kIn ⟨_, h1, rfl⟩ e (fun z => nomatch z) h
  | @tup a xs ea =>
    cases (show u = Value.ref a from rx)
    obtain ⟨_, _, _, p⟩ := (show ObjOk X.prog X.w H s.heap a (.tup xs) from I.hok a _ ea)
    obtain ⟨o, h1, h2, _⟩ := p
    exact PySem.W.kia_one PySem.W.kitx_tuple I.kIn ⟨o, h1, h2⟩ e (fun z => nomatch z) h
  | @dK a kvs ea =>
    cases (show u = Value.ref a from rx)
    obtain ⟨_, _, vs, _, p⟩ := (show ObjOk X.prog X.w H s.heap a (.dK kvs) from I.hok a _ ea)
    obtain ⟨o, es, ep, h1, h2, _⟩ := p
    exact PySem.W.kia_one PySem.W.kitx_dict I.kIn ⟨o, h1, h2.1⟩ e (fun z => nomatch z) h
  | @dT a kvs ea =>
    cases (show u = Value.ref a from rx)
    obtain ⟨_, _, xs, _, o, es, ep, h1, h2, _⟩ := (show ObjOk X.prog X.w H s.heap a (.dT kvs) from I.hok a _ ea)
    exact PySem.W.kia_one PySem.W.kitx_dict I.kIn ⟨o, h1, h2.1⟩ e (fun z => nomatch z) h
  | @ins a C dx fs ea cl ha hn htk hm =>
    cases (show u = Value.ref a from rx)
    obtain ⟨mA, O, _⟩ := ins_get I.hok ea
    obtain ⟨od, J, _⟩ := O.look
    exact PySem.W.kia_one (PySem.W.kitx_own (cl.get _) cl.hd ha hn htk hm) I.kIn J e (fun z => nomatch z) h
end
end L2

namespace L2
open PySem PySem.Spec PyProof.Rows

structure Room (k : Nat) (A : Around) : Prop where
  hd : A.handled = none
  dp : A.depth + 3 * k + 5 < recursionLimit
  un : A.units + 16 * k + 200 < cLine
theorem Room.mono {j k : Nat} {A : Around} (r : Room k A) (h : j ≤ k) : Room j A := ⟨r.hd, by have := r.dp; omega, by have := r.un; omega⟩
theorem Room.deeper {k : Nat} {A : Around} (r : Room (k + 1) A) (env : Env) : Room k (A.deeper env) :=
  ⟨r.hd, by have := r.dp; show A.depth + 1 + 3 * k + 5 < _; omega, by have := r.un; show A.units + 3 + 16 * k + 200 < _; omega⟩
theorem Room.depth {k : Nat} {A : Around} (r : Room k A) : A.depth < recursionLimit := by have := r.dp; omega
theorem Room.units {k : Nat} {A : Around} (r : Room k A) : A.units + 64 < cLine := by have := r.un; omega
def tNil : TA := fun _ H Q => Q [] H
def tCons (ta : TE) (tr : TA) : TA := fun σ H Q => ta σ H fun x H1 => tr σ H1 fun xs H2 => Q (x :: xs) H2
section
variable {X : Cx} {e : Expr} {es : List Expr} {te : TE} {t : TA} {pos : Pos}
theorem pa_nil : PA X [] tNil := fun _ _ _ _ H Q I h => Calls.spliced_nil ⟨[], H, I, .nil, h⟩
theorem pa_cons (ha : PE X e te) (hr : PA X es t) (hs : starEach (e :: es) X.env = (false, eval e X.env) :: starEach es X.env := by rfl) : PA X (e :: es) (tCons te t) := by
  intro pos pins s σ H Q I h
  rw [hs]
  show wpAny _ _ (spliced ((false, eval e X.env) :: backTo pos (starEach es X.env))) _ _ s
  refine Calls.spliced_cons (thn (ha pins s σ H _ I h) fun u s1 ⟨x, H1, I1, r1, q1⟩ => ?_)
  exact thn (hr pos pins s1 σ H1 _ I1 q1) fun us s2 ⟨xs, H2, I2, r2, q2⟩ => ⟨x :: xs, H2, I2, .cons r1 r2, q2⟩

/-- a tuple, a list of written items -/
def tTup (t : TA) : TE := fun σ H Q => t σ H fun xs H1 => xs.length ≤ sizeLine ∧ ∀ p, H1 p = none → Q (.ref p) (upd H1 p (.tup xs))
def tLst (t : TA) : TE := fun σ H Q => t σ H fun xs H1 => xs.length ≤ sizeLine ∧ ∀ p, H1 p = none → Q (.ref p) (upd H1 p (.lst xs))
theorem pe_tup {x1} (h : PA X es t) : PE X (.Tuple es x1 pos) (tTup t) := by
  intro pins s σ H Q I hq
  refine wpAny_Tuple_spliced (thn (h pos pins s σ H _ I hq) fun us s1 ⟨xs, H1, I1, r, z, q⟩ => ⟨by rw [← r.length]; exact z, ?_⟩)
  have hf : H1 s1.heap.objs.size = none := I1.hok.fresh (Nat.le_refl _)
  refine ⟨.ref s1.heap.objs.size, upd H1 s1.heap.objs.size (.tup xs), I1.laid (t' := s1.toks) (fun b u e => Heap.get?_push_of_some _ e) (Nat.le_refl _) ?_, rfl, q _ hf⟩
  exact ⟨z, us, r, ⟨_, Heap.get?_push_size _ rfl, rfl, _, rfl⟩⟩
theorem pe_lst (h : PA X es t) : PE X (.List es pos) (tLst t) := by
  intro pins s σ H Q I hq
  refine wpAny_List_spliced (thn (h pos pins s σ H _ I hq) fun us s1 ⟨xs, H1, I1, r, z, q⟩ => ⟨by rw [← r.length]; exact z, ?_⟩)
  have hf : H1 s1.heap.objs.size = none := I1.hok.fresh (Nat.le_refl _)
  refine ⟨.ref s1.heap.objs.size, upd H1 s1.heap.objs.size (.lst xs), I1.laid (t' := s1.toks) (fun b u e => Heap.get?_push_of_some _ e) (Nat.le_refl _) ?_, rfl, q _ hf⟩
  exact ⟨z, us, 0, r, Heap.get?_push_size _ rfl⟩
end

/-- a def's promise: the bound arguments in the parameters' order, the heap, the wanted end, the wanted exception -/
abbrev Sp := List V → Hp → VK → XK → Prop
/-- how an exception lies behind a call (file 08 gives it): the callers' frames, abstract heap and state ahead of the call, the wish, the exception, the state -/
abbrev CXT := List Env → Hp → Shared → XK → Value → Shared → Prop

/-- the state at a call -/
structure Env0 (P : Program) (w : World) (K : PySem.W.Frag) (mg : Str → Option Value) (base : Heap) (A : Around) (outer : List Env) (s : Shared) (H : Hp) : Prop where
  frames : A.frames = some outer
  mod : Mod K mg base
  bs : ∀ b o, base.get? b = some o → s.heap.get? b = some o ∧ H b = none
  bsz : base.objs.size ≤ s.heap.objs.size
  funs : s.heap.FunFrames base outer
  frf : ∀ b ∈ frs outer, H b = none
  hok : HOk P w H s.heap
  bare : AllBare s.gens
/-- a call's end -/
def CE (outer : List Env) (P : Program) (w : World) (H : Hp) (s : Shared) (Q : VK) (u : Value) (s' : Shared) : Prop :=
  ∃ v H', s'.os = s.os ∧ AllBare s'.gens ∧ Un (frs outer) [] H H' s.heap s'.heap ∧ HOk P w H' s'.heap ∧ RelV v u ∧ Q v H'
def CR (CX : CXT) (outer : List Env) (P : Program) (w : World) (H : Hp) (s : Shared) (Q : VK) (E : XK) (r : Result) (s' : Shared) : Prop :=
  match r with
  | .ok (.ret u) => CE outer P w H s Q u s'
  | .ok _ => False
  | .error e => CX outer H s E e s'
structure FnOk (P : Program) (w : World) (K : PySem.W.Frag) (mg : Str → Option Value) (base : Heap) (CX : CXT) (k : Nat) (f : Addr) (fd : FuncData) (ps : List Str) (sp : Sp) : Prop where
  len : ∀ vs H Q E, sp vs H Q E → vs.length = ps.length
  run : ∀ (A : Around) (outer : List Env) (s : Shared) (H : Hp) (args : Args) (us : List Value) (vs : List V) (Q : VK) (E : XK), Room k A → Env0 P w K mg base A outer s H → BindsTo s fd args (ps.zip us) → Vals vs us → sp vs H Q E →
    codeAny (model P w) A (.call (.ref f) args) (CR CX outer P w H s Q E) s
section
variable {X : Cx} {pins : List (Addr × Obj)} {σ : St} {H : Hp} {s s' : Shared}
/-- from a body: what a callee wants -/
theorem Inv.env0 (I : Inv X pins σ H s) : Env0 X.prog X.w X.K X.mg X.base X.A X.stack s H :=
  ⟨I.ok.frames, I.ok.mod, I.bs, Nat.le_trans I.ok.bsz I.sz, I.stack, I.stkFree, I.hok, I.bare⟩
/-- behind a call -/
theorem Inv.after {Q : VK} {u : Value} (I : Inv X pins σ H s) (h : CE X.stack X.prog X.w H s Q u s') : EP X pins σ Q u s' := by
  obtain ⟨v, H', os, bare, un, hok, r, q⟩ := h
  obtain ⟨hh, g, d, t, os'⟩ := s'
  obtain rfl : os' = s.os := os
  exact ⟨v, H', I.call (h' := hh) (g' := g) (d' := d) (t' := t) (ch := []) un hok bare (fun b z => absurd z (by simp)), r, q⟩
end

/-- f(..): the written arguments, then the defaults dvs; E: what is wanted of an exception -/
def tCall (sp : Sp) (dvs : List V) (E : XK) (t : TA) : TE := fun σ H Q => t σ H fun vs H1 => sp (vs ++ dvs) H1 Q E
/-- how the parameters are bound: us the positional arguments, kw the keywords' values by name, ds the defaults that fill up -/
def Binds (K : PySem.W.Frag) (fd : FuncData) (ps : List Str) (ds : List Value) : Prop :=
  ∀ (s : Shared) (us : List Value), K.In s.heap → (us ++ ds).length = ps.length → BindsTo s fd ⟨us, []⟩ (ps.zip (us ++ ds))
/-- every parameter is given -/
theorem Binds.all {K : PySem.W.Frag} {fd : FuncData} {ps : List Str} (h : ∀ us : List Value, us.length = ps.length → bindArgs fd ⟨us, []⟩ = pure (ps.zip us)) : Binds K fd ps [] := fun s us _ hl => by
  rw [List.append_nil] at hl ⊢
  exact .of_eq (h us hl)

/-- an exception of a callee reaches what this body wants of exceptions -/
def Passes (CX : CXT) (X : Cx) (E : XK) : Prop := ∀ (pins : List (Addr × Obj)) (σ : St) (H : Hp) (s : Shared) (e : Value) (s' : Shared), Inv X pins σ H s → CX X.stack H s E e s' → X.xe e s'

section
variable {X : Cx} {CX : CXT} {k : Nat} {f C : Addr} {fd : FuncData} {ps : List Str} {sp : Sp} {dvs : List V} {ds : List Value} {E : XK} {x m : Str} {p pos apos : Pos} {e o : Expr} {es : List Expr} {ta : TE} {t : TA}

/-- the callee runs -/
theorem run_fn {pins : List (Addr × Obj)} {σ : St} {H : Hp} {s : Shared} {Q : VK} {us : List Value} {vs : List V} (F : FnOk X.prog X.w X.K X.mg X.base CX k f fd ps sp) (hr : Room k X.A) (hb : Binds X.K fd ps ds) (hd : Vals dvs ds) (hx : Passes CX X E)
    (I : Inv X pins σ H s) (r : Vals vs us) (h : sp (vs ++ dvs) H Q E) : wpAny (model X.prog X.w) X.A (call (.ref f) us) (EP X pins σ Q) X.xe s := by
  have r2 : Vals (vs ++ dvs) (us ++ ds) := r.append hd
  have hl : (us ++ ds).length = ps.length := by rw [← r2.length]; exact F.len _ _ _ _ h
  refine wpAny_call (codeAny_mono (F.run X.A X.stack s H ⟨us, []⟩ (us ++ ds) (vs ++ dvs) Q E hr I.env0 (hb s us I.kIn hl) r2 h) fun r s' hq => ?_)
  cases r with
  | error e => exact hx pins σ H s e s' I hq
  | ok fl =>
    cases fl with
    | ret u => exact I.after hq
    | next => exact False.elim hq
    | brk => exact False.elim hq
    | cont => exact False.elim hq

theorem pe_call (F : FnOk X.prog X.w X.K X.mg X.base CX k f fd ps sp) (hr : Room k X.A) (hg : Gl X x) (hm : X.mg x = some (.ref f)) (hk : PySem.W.keepIn X.K (.ref f) = true) (hb : Binds X.K fd ps ds) (hd : Vals dvs ds) (hx : Passes CX X E)
    (ha : PA X (e :: es) t) (hdb : (x == ("__debug__" : Str)) = false := by decide) (he : starEach (e :: es) X.env = (false, eval e X.env) :: starEach es X.env := by rfl) (hpl : (backTo pos (starEach es X.env)).any (·.1) = false := by rfl) :
    PE X (.Call (.Name x p) (e :: es) [] pos) (tCall sp dvs E t) := by
  intro pins s σ H Q I h
  refine wpAny_Call_Name_kw (ld_glob I hg hm ?_ hdb)
  refine PySem.W.callWith_K (h₀ := X.base) I.ok.mod.kin hk (thn (ha pos pins s σ H _ I h) fun us s1 ⟨vs, H1, I1, r, q⟩ => ⟨I1.kIn, ?_⟩) he hpl
  exact run_fn F hr hb hd hx I1 r q
end

section
variable {X : Cx} {CX : CXT} {k : Nat} {f C : Addr} {fd : FuncData} {ps ks : List Str} {sp : Sp} {E : XK} {x m : Str} {p pos apos kpos : Pos} {e o : Expr} {es : List Expr} {kws : List Keyword} {te ta : TE} {t tk : TA} {nm : Option Str}
variable {g : List Value → List Value → List Value} {gV : List V → List V → List V}
end

/-- names: the parameters first -/
structure FnScope (N P : List Str) (sc : Scope) : Prop where
  kind : sc.kind = .function
  co : sc.isCoroutine = false
  gen : sc.isGenerator = false
  nd : N.Nodup
  pre : N.take P.length = P
  par : ∀ x ∈ P, sc.names.lookup x = some .local ∨ sc.names.lookup x = some .cell
  nofree : ∀ y ∈ sc.names, y.2 ≠ .free

theorem bindL_out {kindOf : Str → Option NameKind} {x : Str} : ∀ {binds : List (Str × Value)} {m : Str → Option Value}, (∀ v, (x, v) ∉ binds) → bindL kindOf binds m x = m x
  | [], _, _ => rfl
  | (n, v) :: r, m, h => by
    unfold bindL
    rw [bindL_out fun w hw => h w (List.mem_cons_of_mem _ hw)]
    split
    · have : x ≠ n := by rintro rfl; exact h v List.mem_cons_self
      simp [this]
    · rfl
theorem bindC_out {kindOf : Str → Option NameKind} {x : Str} : ∀ {binds : List (Str × Value)} {m : Str → Option Value}, (∀ v, (x, v) ∉ binds) → bindC kindOf binds m x = m x
  | [], _, _ => rfl
  | (n, v) :: r, m, h => by
    unfold bindC
    rw [bindC_out fun w hw => h w (List.mem_cons_of_mem _ hw)]
    split
    · rfl
    · have : x ≠ n := by rintro rfl; exact h v List.mem_cons_self
      simp [this]
theorem bindL_get {kindOf : Str → Option NameKind} {x : Str} {v : Value} : ∀ {P : List Str} {vs : List Value} {i : Nat} {m : Str → Option Value}, P.Nodup → P[i]? = some x → vs[i]? = some v → kindOf x = some .local →
    bindL kindOf (P.zip vs) m x = some v
  | [], _, _, _, _, h, _, _ => by simp at h
  | _ :: _, [], _, _, _, _, h, _ => by simp at h
  | p :: P, w :: vs, 0, m, nd, h1, h2, hk => by
    simp at h1 h2; subst h1; subst h2
    show bindL kindOf ((p, w) :: P.zip vs) m p = _
    unfold bindL
    rw [bindL_out fun v hv => (List.nodup_cons.mp nd).1 (List.of_mem_zip hv).1, if_pos hk]
    simp
  | p :: P, w :: vs, i + 1, m, nd, h1, h2, hk => by
    show bindL kindOf ((p, w) :: P.zip vs) m x = _
    unfold bindL
    exact bindL_get (i := i) (List.nodup_cons.mp nd).2 (by simpa using h1) (by simpa using h2) hk
theorem bindC_get {kindOf : Str → Option NameKind} {x : Str} {v : Value} : ∀ {P : List Str} {vs : List Value} {i : Nat} {m : Str → Option Value}, P.Nodup → P[i]? = some x → vs[i]? = some v → kindOf x ≠ some .local →
    bindC kindOf (P.zip vs) m x = some v
  | [], _, _, _, _, h, _, _ => by simp at h
  | _ :: _, [], _, _, _, _, h, _ => by simp at h
  | p :: P, w :: vs, 0, m, nd, h1, h2, hk => by
    simp at h1 h2; subst h1; subst h2
    show bindC kindOf ((p, w) :: P.zip vs) m p = _
    unfold bindC
    rw [bindC_out fun v hv => (List.nodup_cons.mp nd).1 (List.of_mem_zip hv).1, if_neg hk]
    simp
  | p :: P, w :: vs, i + 1, m, nd, h1, h2, hk => by
    show bindC kindOf ((p, w) :: P.zip vs) m x = _
    unfold bindC
    exact bindC_get (i := i) (List.nodup_cons.mp nd).2 (by simpa using h1) (by simpa using h2) hk

/-- the names' values at the entry -/
def start (N : List Str) (vs : List V) : St := vs.map some ++ List.replicate (N.length - vs.length) none

/-- the context of a def's body, at its entry; an exception leaves the frame, then lies as CX says -/
def cxOf (CX : CXT) (P : Program) (w : World) (K : PySem.W.Frag) (mg : Str → Option Value) (base : Heap) (N : List Str) (qual : Str) (scope : Scope) (f : Addr) (cd : Value) (A : Around) (outer : List Env) (s : Shared) (H : Hp) (E : XK) : Cx where
  prog := P
  w := w
  K := K
  mg := mg
  base := base
  A := A.deeper (envOfC qual scope s.heap.objs.size f cd)
  N := N
  s₀ := s
  H₀ := H
  env := envOfC qual scope s.heap.objs.size f cd
  outer := outer
  stack := envOfC qual scope s.heap.objs.size f cd :: outer
  ex := []
  calm := true
  fn := fun _ => true
  pn := []
  xe := fun e s' => wpAny (model P w) (A.deeper (envOfC qual scope s.heap.objs.size f cd)) (leaving (envOfC qual scope s.heap.objs.size f cd) e) (fun _ s'' => CX outer H s E e s'') (fun e' s'' => CX outer H s E e' s'') s'

theorem cell_has {sc : Scope} {n : Nat} {x : Str} (h : sc.names.lookup x = some .cell) : ∃ c, (cellsFrom n sc.names []).lookup x = some c := by
  have q := PySem.W.cellsFrom_some sc.names n [] (.inl h)
  exact Option.isSome_iff_exists.mp q

theorem inv_start {CX : CXT} {P : Program} {w : World} {K : PySem.W.Frag} {mg : Str → Option Value} {base : Heap} {N ps : List Str} {qual : Str} {scope : Scope} {f : Addr} {cd : Value} {A : Around} {outer : List Env} {s s1 : Shared} {H : Hp} {E : XK} {us : List Value} {vs : List V}
    (S : FnScope N ps scope) (hd : A.handled = none) (e0 : Env0 P w K mg base A outer s H) (hl : vs.length = ps.length) (r : Vals vs us)
    (x : InCallC s s.heap.objs.size (bindL (envOfC qual scope s.heap.objs.size f cd).kindOf (ps.zip us) fun _ => none) (cellsFrom (s.heap.objs.size + 1) scope.names []) (bindC (envOfC qual scope s.heap.objs.size f cd).kindOf (ps.zip us) fun _ => none) s1) :
    Inv (cxOf CX P w K mg base N qual scope f cd A outer s H E) [] (start N vs) H s1 := by
  have hpl : ps.length ≤ N.length := by have := congrArg List.length S.pre; rw [List.length_take] at this; omega
  obtain ⟨h1, tk, rfl, hk⟩ := x.done
  have noA : ∀ b : Addr, b ∉ (cxOf CX P w K mg base N qual scope f cd A outer s H E).ex := fun b z => absurd (show b ∈ ([] : List Addr) from z) (by simp)
  refine ⟨⟨e0.mod, S.kind, rfl, rfl, Nat.le_refl _, fun y z c h1 h2 => ?_, fun y hy => ?_, fun y c _ h => ?_, fun _ => hd, Around.frames_deeper e0.frames, .inr ⟨rfl, rfl⟩, fun b z => absurd z (noA b), e0.bs, e0.bsz, fun b _ _ => noA b, fun b z => absurd z (noA b), e0.funs, e0.frf⟩,
    rfl, e0.bare, Un.kept hk, ⟨_, x.toInCall.ns, fun i y v h1 h2 h3 => ?_⟩, fun y c h => ⟨_, x.cell y c h⟩, e0.hok.fresh (Nat.le_refl _), fun y c h => ?_, fun p hp => absurd (show p ∈ ([] : List (Addr × Obj)) from hp) (by simp), e0.hok.kept hk, ?_⟩
  · exact name_of_addr x.apart (PySem.mem_of_lookup h1) (PySem.mem_of_lookup h2)
  · have hy : scope.names.lookup y = some .cell ∨ scope.names.lookup y = some .free := hy
    rcases hy with hy | hy
    · exact cell_has hy
    · exact absurd rfl (S.nofree _ (PySem.mem_of_lookup hy))
  · exact Nat.le_of_lt (x.above y c (PySem.mem_of_lookup h))
  · have hi : i < vs.length := by
      unfold start at h2
      by_cases hi : i < vs.length
      · exact hi
      · rw [List.getElem?_append_right (by simpa using hi)] at h2
        rw [List.getElem?_replicate] at h2
        split at h2 <;> cases h2
    have ha : vs[i]? = some v := by
      unfold start at h2
      rw [List.getElem?_append_left (by simpa using hi), List.getElem?_map] at h2
      cases e : vs[i]? with
      | none => rw [e] at h2; cases h2
      | some a => rw [e] at h2; cases h2; rfl
    obtain ⟨u, hu, rv⟩ := r.get ha
    have hp : ps[i]? = some y := by
      rw [← S.pre, List.getElem?_take_of_lt (by omega)]; exact h1
    have ndP : ps.Nodup := by rw [← S.pre]; exact S.nd.sublist (List.take_sublist _ _)
    refine ⟨u, rv, ?_⟩
    rcases S.par y (List.mem_of_getElem? hp) with k | k
    · exact .inl ⟨k, bindL_get ndP hp hu k⟩
    · obtain ⟨c, e⟩ := cell_has (n := s.heap.objs.size + 1) k
      refine .inr ⟨.inl k, c, e, ?_⟩
      have q := x.cell y c e
      rw [bindC_get ndP hp hu (by show scope.names.lookup y ≠ _; rw [k]; decide)] at q
      exact q
  · exact e0.hok.fresh (Nat.le_of_lt (x.above y c (PySem.mem_of_lookup h)))
  · unfold start
    show _ = N.length
    rw [List.length_append, List.length_map, List.length_replicate]
    omega

/-- THE RULE: a def (or a method) of the text, by its body. The body's reading t is chosen for each entry; it is run at the parameters' values -/
theorem fn_of {CX : CXT} {P : Program} {w : World} {K : PySem.W.Frag} {mg : Str → Option Value} {base : Heap} {k : Nat} {f : Addr} {name qual : Str} {params : Arguments} {body : List Stmt} {scope : Scope} {dV kV doc pm cdv ct oc : Value} {an od : Option Addr}
    {osl : Array (Option Value)} {N ps : List Str} {sp : Sp} (lk : K.lookup f = some ⟨oc, od, .func (PySem.W.fnOf name qual params body scope dV kV doc pm an cdv ct), osl⟩) (hcd : PySem.W.codeIn K cdv qual = true) (S : FnScope N ps scope)
    (len : ∀ vs H Q E, sp vs H Q E → vs.length = ps.length)
    (hbody : ∀ (A : Around) (outer : List Env) (s : Shared) (H : Hp) (vs : List V) (Q : VK) (E : XK), Room k (A.deeper (envOfC qual scope s.heap.objs.size f cdv)) → sp vs H Q E →
      ∃ t, PSs (cxOf CX P w K mg base N qual scope f cdv A outer s H E) body t ∧ t { nx := fun _ H' => Q .non H', rt := Q } (start N vs) H) :
    FnOk P w K mg base CX (k + 1) f (PySem.W.fnOf name qual params body scope dV kV doc pm an cdv ct) ps sp := by
  refine ⟨len, fun A outer s H args us vs Q E hr e0 hb r hsp => ?_⟩
  have hl := len _ _ _ _ hsp
  have KX : K.In s.heap := e0.mod.kin.keeps fun b o e => (e0.bs b o e).1
  have lim : s.heap.NoLimit := e0.mod.nolimit.keeps fun b o e => (e0.bs b o e).1
  have hkind : ∀ y ∈ ps.zip us, scope.names.lookup y.1 = some .local ∨ (scope.names.lookup y.1 = some .cell ∧ ((cellsFrom (s.heap.objs.size + 1) scope.names []).lookup y.1).isSome = true) := fun ⟨n, v⟩ hy => by
    rcases S.par n (List.of_mem_zip hy).1 with q | q
    · exact .inl q
    · exact .inr ⟨q, PySem.W.cellsFrom_some _ _ _ (.inl q)⟩
  refine codeAny_call_function hr.depth (KX _ _ lk) rfl S.co S.gen rfl (PySem.W.codeRec_of KX hcd) (hb _ _ _ _ ?_)
  refine wpAny_newFunctionEnv_cells S.kind hkind fun env he s1 x => ?_
  subst he
  refine ⟨lim.keeps x.toInCall.keep, codeAny_func ?_⟩
  obtain ⟨t, ht, hq⟩ := hbody A outer s H vs Q E (hr.deeper _) hsp
  have I : Inv (cxOf CX P w K mg base N qual scope f cdv A outer s H E) [] (start N vs) H s1 := inv_start S hr.hd e0 hl r x
  refine wpAny_mono (ht [] s1 (start N vs) H _ I hq) (fun fl s' hs => ?_) fun e s' hs => hs
  have fin : ∀ {σ' : St} {H' : Hp} {v : V} {u : Value}, Inv (cxOf CX P w K mg base N qual scope f cdv A outer s H E) [] σ' H' s' → RelV v u → Q v H' → CE outer P w H s Q u s' :=
    fun {σ' H' v u} J rv q => ⟨v, H', J.os, J.bare, J.base, J.hok, rv, q⟩
  cases fl with
  | ret u =>
    obtain ⟨v, σ', H', J, rv, q⟩ := hs
    exact fin J rv q
  | next =>
    obtain ⟨σ', H', J, q⟩ := hs
    exact fin (v := V.non) (u := Value.none) J rfl q
  | brk =>
    obtain ⟨_, _, _, q⟩ := hs
    exact False.elim q
  | cont =>
    obtain ⟨_, _, _, q⟩ := hs
    exact False.elim q
end L2

namespace L2
open PySem PySem.Spec PyProof.Rows
section
variable {X : Cx} {x : Str} {p pos : Pos} {e : Expr} {es : List Expr} {t : TA} {id T : String} {r : List V → Hp → VK → Prop}

def tCB (r : List V → Hp → VK → Prop) (t : TA) : TE := fun σ H Q => t σ H fun vs H1 => r vs H1 Q
/-- f(e, ..), f a built-in function -/
theorem pe_callB (hc : CallR X (.builtin id) r) (hg : Gl X x) (hm : X.mg x = none) (hv : bootBuiltins x = some (.builtin id)) (ha : PA X (e :: es) t) (hn : x ≠ "__name__" := by decide) (hdb : (x == ("__debug__" : Str)) = false := by decide)
    (he : starEach (e :: es) X.env = (false, eval e X.env) :: starEach es X.env := by rfl) (hpl : (backTo pos (starEach es X.env)).any (·.1) = false := by rfl) : PE X (.Call (.Name x p) (e :: es) [] pos) (tCB r t) := by
  intro pins s σ H Q I h
  refine wpAny_Call_Name_kw (ld_blt I hg hm hv ?_ hn hdb)
  exact PyProof.Rows.callWith_builtin1 (thn (ha pos pins s σ H _ I h) fun us s1 ⟨vs, H1, I1, r1, q1⟩ => hc pins s1 σ H1 vs us Q I1 r1 q1) he hpl
/-- T(e, ..), T a built-in type -/
theorem pe_callTy (hc : CallR X (.type T) r) (hg : Gl X x) (hm : X.mg x = none) (hv : bootBuiltins x = some (.type T)) (ha : PA X (e :: es) t) (hn : x ≠ "__name__" := by decide) (hdb : (x == ("__debug__" : Str)) = false := by decide)
    (he : starEach (e :: es) X.env = (false, eval e X.env) :: starEach es X.env := by rfl) (hpl : (backTo pos (starEach es X.env)).any (·.1) = false := by rfl) : PE X (.Call (.Name x p) (e :: es) [] pos) (tCB r t) := by
  intro pins s σ H Q I h
  refine wpAny_Call_Name_kw (ld_blt I hg hm hv ?_ hn hdb)
  exact PyProof.Rows.callWith_type1 (thn (ha pos pins s σ H _ I h) fun us s1 ⟨vs, H1, I1, r1, q1⟩ => hc pins s1 σ H1 vs us Q I1 r1 q1) he hpl
end
end L2

namespace HT
open PySem PyProof.Rows

/-- t < u of tuples of ints -/
def lexLt : List Int → List Int → Bool
  | [], [] => false
  | [], _ :: _ => true
  | _ :: _, [] => false
  | x :: xs, y :: ys => if x = y then lexLt xs ys else decide (x < y)
theorem lexLt_cons (x y : Int) (xs ys : List Int) : lexLt (x :: xs) (y :: ys) = if x = y then lexLt xs ys else decide (x < y) := rfl
theorem lexLt_nil_nil : lexLt [] [] = false := rfl
theorem lexLt_nil_cons (y : Int) (ys : List Int) : lexLt [] (y :: ys) = true := rfl
theorem lexLt_cons_nil (x : Int) (xs : List Int) : lexLt (x :: xs) [] = false := rfl

theorem eqAt_int (A : Around) (s : Shared) (a : Int) (t : Tok) (c : Int) (u : Tok) : ∃ e, SeqAt.EqAt A s (.int a t) (.int c u) e ∧ (e = true ↔ a = c) :=
  ⟨(a == c), SeqAt.EqAt.int_int a t c u, by simp⟩
theorem rcLt_int (A : Around) (s : Shared) (a : Int) (t : Tok) (c : Int) (u : Tok) (prog : Program) (w : World) (E : Value → Shared → Prop) (Q : Value → Shared → Prop) (h : Q (.bool (decide (a < c))) s) :
    wpAny (model prog w) A (richCompare .Lt (.int a t) (.int c u)) Q E s :=
  (PyProof.Rows.lt_int h : wpAny (model prog w) A (compareOp .Lt (.int a t) (.int c u)) Q E s)

section
open PySem.SeqAt
open PySem.AutoSeq1 (wpAny_loadPart')
open PySem.MeetsSeq PySem.MeetsSeq2 PySem.MeetsSeq3

theorem tuple_lt_ints (l b : Addr) (items items2 : Array Value) (n n2 : Nat) (dd dd2 : Option Addr) (sl sl2 : Array (Option Value)) (ns ms : List Int) (hi : IntsAre items.toList ns) (hj : IntsAre items2.toList ms) :
    Meets (Builtin.«tuple.__lt__» ⟨[.ref l, .ref b], []⟩)
      (fun _ R s => s.heap.get? l = some { cls := .type "tuple", dict := dd, data := .seq items n, slots := sl } ∧ s.heap.get? b = some { cls := .type "tuple", dict := dd2, data := .seq items2 n2, slots := sl2 } ∧
        R (.ok (.ret (.bool (lexLt ns ms)))) s) :=
  .of_wp fun prog w A R s h => by
    obtain ⟨hp, g, d, tk, os⟩ := s; obtain ⟨hl, hb, h⟩ := h
    have f2 := AutoSeq1.sub_tuple_tuple
    have z1 : items.size = ns.length := by rw [← hi.length]; simp
    have z2 : items2.size = ms.length := by rw [← hj.length]; simp
    wp_walk using wpAny_loadPart' hl, wpAny_loadPart' hb, wpAny_forIn_list _ (fun rest b s' => b.1 = none ∧ s' = ⟨hp, g, d, tk, os⟩ ∧ ∃ (vs ws : List Value) (ns' ms' : List Int), rest = vs.zip ws ∧
      IntsAre vs ns' ∧ IntsAre ws ms' ∧ ns'.length + items2.size = ms'.length + items.size ∧ R (.ok (.ret (.bool (lexLt ns' ms')))) ⟨hp, g, d, tk, os⟩) _
    case turn =>
      rintro ⟨y, x⟩ rest b s' ⟨hb', rfl, vs, ws, ns', ms', hz, hvi, hwi, hlen, hR⟩
      cases hvi with
      | nil => rw [List.zip_nil_left] at hz; cases hz
      | cons a t hvi' =>
        cases hwi with
        | nil => rw [List.zip_nil_right] at hz; cases hz
        | cons c u hwi' =>
          rw [List.zip_cons_cons] at hz
          injection hz with hyx hrest
          injection hyx with hy hx
          subst hy hx
          rw [lexLt_cons] at hR
          simp only [List.length_cons] at hlen
          obtain ⟨e, he, hiff⟩ := eqAt_int A.in1 ⟨hp, g, d, tk, os⟩ a t c u
          refine wpAny_bind (he prog w _ _ ?_)
          cases e with
          | true =>
            rw [if_pos (hiff.mp rfl)] at hR
            wp_walk
            exact ⟨rfl, rfl, _, _, _, _, hrest, hvi', hwi', by omega, hR⟩
          | false =>
            rw [if_neg (fun q => absurd (hiff.mpr q) Bool.false_ne_true)] at hR
            have hri := rcLt_int A.in1 ⟨hp, g, d, tk, os⟩ a t c u prog w
            wp_walk using hri
            exact ⟨_, rfl, by simpa using hR⟩
    case fin =>
      rintro ⟨b1, b2⟩ s' ⟨hb', rfl, vs, ws, ns', ms', hz, hvi, hwi, hlen, hR⟩
      simp only at hb'
      subst hb'
      have hv : lexLt ns' ms' = decide (items.size < items2.size) := by
        cases hvi with
        | nil =>
          cases hwi with
          | nil =>
            simp only [List.length_nil] at hlen
            rw [lexLt_nil_nil]
            exact (decide_eq_false (by omega)).symm
          | cons c u hw =>
            simp only [List.length_nil, List.length_cons] at hlen
            rw [lexLt_nil_cons]
            exact (decide_eq_true (by omega)).symm
        | cons a t hv =>
          cases hwi with
          | nil =>
            simp only [List.length_nil, List.length_cons] at hlen
            rw [lexLt_cons_nil]
            exact (decide_eq_false (by omega)).symm
          | cons c u hw =>
            rw [List.zip_cons_cons] at hz
            cases hz
      rw [hv] at hR
      wp_walk
      exact ⟨_, rfl, by simpa [Builtin.Tuple.tupleCompareSizes] using hR⟩
    case h =>
      exact ⟨rfl, rfl, items.toList, items2.toList, ns, ms, rfl, hi, hj, by omega, h⟩
end

section
variable {prog : Program} {w : World} {A : Around} {E : Value → Shared → Prop} {s : Shared}

theorem lt_tupInts {l b : Addr} {items items2 : Array Value} {ns ms : List Int} {Q : Value → Shared → Prop} (hl : IsTup s.heap l items) (hb : IsTup s.heap b items2) (hi : IntsAre items.toList ns) (hj : IntsAre items2.toList ms)
    (hu : A.units < cLine) (h : Q (.bool (lexLt ns ms)) s) : wpAny (model prog w) A (compareOp .Lt (.ref l) (.ref b)) Q E s := by
  obtain ⟨⟨cls, dd, data, sl⟩, ho, hc, n, hd⟩ := id hl
  obtain ⟨⟨cls2, dd2, data2, sl2⟩, ho2, hc2, n2, hd2⟩ := id hb
  simp only at hc hd hc2 hd2
  subst hc hd hc2 hd2
  exact richCompare_meets_room (op := .Lt) ⟨_, ho, rfl⟩ ⟨_, ho2, rfl⟩ PySem.F.slot_tuple_lt PySem.F.entry_tuple_lt (PySem.F.args_tuple_lt_2 _ _) (tuple_lt_ints l b items items2 n n2 dd dd2 sl sl2 ns ms hi hj)
    ⟨ho, ho2, show Value.bool (lexLt ns ms) ≠ Value.notImplemented ∧ Q (.bool (lexLt ns ms)) s from ⟨(fun x => nomatch x), h⟩⟩ hu

end
end HT

namespace L2
open PySem PySem.Spec PyProof.Rows

theorem intsAre_of {ns : List Int} : ∀ {us : List Value}, Vals (ns.map V.int) us → IntsAre us ns := by
  induction ns with
  | nil => intro us r; rw [List.map_nil] at r; cases r; exact .nil
  | cons n ns ih =>
    intro us r
    rw [List.map_cons] at r
    cases r with
    | cons r1 r2 =>
      obtain ⟨t, e⟩ := r1
      subst e
      exact .cons n t (ih r2)

section
variable {X : Cx} {e : Expr} {te : TE} {lo hi : Option Expr} {tl th : TO} {pos p2 : Pos}

def rLtT (K : PySem.W.Frag) : R2 := fun x y H Q => ∃ a b ns ms, x = .ref a ∧ y = .ref b ∧ SqT K H a (ns.map V.int) ∧ SqT K H b (ms.map V.int) ∧ Q (.bl (HT.lexLt ns ms)) H
theorem op_ltT (hu : X.A.units < cLine) : OpR X (compareOp .Lt) (rLtT X.K) := by
  intro pins s σ H x y v u Q I rx ry h
  obtain ⟨a, b, ns, ms, rfl, rfl, ha, hb, q⟩ := h
  cases rx
  cases ry
  obtain ⟨its, r1, p1, _⟩ := I.tuple ha
  obtain ⟨its2, r2, p2, _⟩ := I.tuple hb
  have i1 : IntsAre its.toArray.toList ns := intsAre_of r1
  have i2 : IntsAre its2.toArray.toList ms := intsAre_of r2
  exact HT.lt_tupInts p1 p2 i1 i2 hu ⟨.bl (HT.lexLt ns ms), H, I, rfl, q⟩
end
end L2

namespace L2
open PySem PySem.Spec PyProof.Rows

/-- the place that an index of any sign means -/
def ixN (n : Nat) (i : Int) : Option Nat := if 0 ≤ i then (if i < n then some i.toNat else none) else if -(n : Int) ≤ i then some (i + n).toNat else none
def atI {α : Type} (xs : List α) (i : Int) : Option α := (ixN xs.length i).bind fun j => xs[j]?
theorem ixN_seq {n : Nat} {i : Int} {j : Nat} (h : ixN n i = some j) : seqIndex? i n = some j ∧ j < n ∧ -(n : Int) ≤ i ∧ i < n := by
  unfold ixN at h
  by_cases h0 : 0 ≤ i
  · rw [if_pos h0] at h
    by_cases h1 : i < n
    · rw [if_pos h1] at h
      have e : i.toNat = j := Option.some.inj h
      exact ⟨by rw [seqIndex_of h0 h1, e], by omega, by omega, h1⟩
    · rw [if_neg h1] at h; cases h
  · rw [if_neg h0] at h
    by_cases h1 : -(n : Int) ≤ i
    · rw [if_pos h1] at h
      have e : (i + n).toNat = j := Option.some.inj h
      exact ⟨by rw [seqIndex_neg (by omega) h1, e], by omega, h1, by omega⟩
    · rw [if_neg h1] at h; cases h
theorem atI_get {α : Type} {xs : List α} {i : Int} {v : α} (h : atI xs i = some v) : ∃ j, seqIndex? i xs.length = some j ∧ xs[j]? = some v ∧ j < xs.length ∧ -(xs.length : Int) ≤ i ∧ i < xs.length := by
  unfold atI at h
  cases e : ixN xs.length i with
  | none => rw [e] at h; cases h
  | some j =>
    rw [e] at h
    obtain ⟨h1, h2, h3, h4⟩ := ixN_seq e
    exact ⟨j, h1, h, h2, h3, h4⟩
theorem atI_nat {α : Type} {xs : List α} {j : Nat} {v : α} (h : xs[j]? = some v) : atI xs (j : Int) = some v := by
  have hj : j < xs.length := (List.getElem?_eq_some_iff.mp h).1
  have e : ixN xs.length (j : Int) = some j := by
    unfold ixN
    rw [if_pos (by omega), if_pos (by omega)]; simp
  unfold atI; rw [e]; exact h
/-- what stands as an index of a plain subscript -/
def PlainIx (b : Expr) : Prop := ∀ o i, subscripted b false o i = operate [o, i] (getItem o i)
/-- a subscript by values -/
def IxR (X : Cx) (r : R2) : Prop :=
  ∀ (value slice : Expr) (pins : List (Addr × Obj)) (s : Shared) (σ : St) (H : Hp) (x y : V) (v u : Value) (Q : VK), Inv X pins σ H s → RelV x v → RelV y u → r x y H Q →
    subscripted slice false v u = operate [v, u] (getItem v u) → wpAny (model X.prog X.w) X.A (subscriptTail value slice v u) (EP X pins σ Q) X.xe s
/-- a call of a builtin's method by values: the receiver, the arguments -/
def MtR (X : Cx) (id : String) (r : V → List V → Hp → VK → Prop) : Prop :=
  ∀ (pins : List (Addr × Obj)) (s : Shared) (σ : St) (H : Hp) (x : V) (xs : List V) (v : Value) (us : List Value) (Q : VK), Inv X pins σ H s → RelV x v → Vals xs us → r x xs H Q →
    wpAny (model X.prog X.w) X.A (call (.builtin id) (v :: us)) (EP X pins σ Q) X.xe s
section
variable {X : Cx} {a b : Expr} {ta tb : TE} {pos : Pos}
/-- a[b] -/
theorem pe_ix {r : R2} (hr : IxR X r) (ha : PE X a ta) (hb : PE X b tb) (hs : PlainIx b) : PE X (.Subscript a b pos) (tOp r ta tb) := by
  intro pins s σ H Q I h
  exact Subscript_ (binT ha hb I h fun v u s2 x y H2 I2 rx ry q => hr a b pins s2 σ H2 x y v u Q I2 rx ry q (hs _ _))

def rIxL (K : PySem.W.Frag) : R2 := fun x y H Q => ∃ p xs i v, x = .ref p ∧ y = .int i ∧ SqL K H p xs ∧ atI xs i = some v ∧ Q v H
def rIxT (K : PySem.W.Frag) : R2 := fun x y H Q => ∃ p xs i v, x = .ref p ∧ y = .int i ∧ SqT K H p xs ∧ atI xs i = some v ∧ Q v H
theorem ix_list : IxR X (rIxL X.K) := by
  intro value slice pins s σ H x y v u Q I rx ry h hs
  obtain ⟨p, xs, i, z, rfl, rfl, hq, he, q⟩ := h
  cases rx
  obtain ⟨t, rfl⟩ := ry
  obtain ⟨its, r, pl, hz⟩ := I.list hq
  obtain ⟨j, h1, h2, h3, h4, h5⟩ := atI_get he
  obtain ⟨w, ew, rw'⟩ := r.get h2
  have hl := r.length
  have hn := line63
  have fin : EP X pins σ Q w s := ⟨z, H, I, rw', q⟩
  by_cases h0 : 0 ≤ i
  · have hj : i.toNat = j := by
      rw [seqIndex_of h0 h5] at h1
      exact Option.some.inj h1
    exact item_listR pl.isList h0 (by omega) (by rw [hj]; simpa using ew) fin hs
  · have hj : (i + (its.toArray.size : Int)).toNat = j := by
      rw [seqIndex_neg (by omega) h4] at h1
      rw [List.size_toArray, ← hl]
      exact Option.some.inj h1
    exact subscriptTail_builtinR (x := w) pl.isList.typeIs slot_list_getitem.lookup
      (wpAny_getItem_list_neg (Q := fun r s' => r = w ∧ EP X pins σ Q r s') pl.isList (by omega) (by rw [List.size_toArray] <;> omega) (by omega) (by rw [hj]; simpa using ew) ⟨rfl, fin⟩) hs
theorem ix_tup : IxR X (rIxT X.K) := by
  intro value slice pins s σ H x y v u Q I rx ry h hs
  obtain ⟨p, xs, i, z, rfl, rfl, hq, he, q⟩ := h
  cases rx
  obtain ⟨t, rfl⟩ := ry
  obtain ⟨its, r, pl, hz⟩ := I.tuple hq
  obtain ⟨j, h1, h2, h3, h4, h5⟩ := atI_get he
  obtain ⟨w, ew, rw'⟩ := r.get h2
  have hl := r.length
  have hn := line63
  have fin : EP X pins σ Q w s := ⟨z, H, I, rw', q⟩
  exact subscriptTail_builtinR (x := w) pl.typeIs slot_tuple_getitem.lookup
    (getItem_tuple (j := j) (Q := fun r s' => r = w ∧ EP X pins σ Q r s') pl (by omega) (by omega) (by rw [List.size_toArray, ← hl]; exact h1) (by simpa using ew) ⟨rfl, fin⟩) hs
def flatV : V → Bool
  | .non => true
  | .bl _ => true
  | .int _ => true
  | .str _ => true
  | _ => false
/-- == of flat values -/
def eqV : V → V → Bool
  | .non, .non => true
  | .bl a, .bl b => a == b
  | .bl a, .int b => (if a then 1 else 0) == b
  | .int a, .bl b => a == (if b then 1 else 0)
  | .int a, .int b => a == b
  | .str a, .str b => a == b
  | _, _ => false
theorem eqAt_V {A : Around} {s : Shared} {y x : V} {u v : Value} (ry : RelV y u) (rx : RelV x v) (fy : flatV y = true) (fx : flatV x = true) : SeqAt.EqAt A s u v (eqV y x) := by
  cases y with
  | non =>
    cases ry
    cases x with
    | non => cases rx; exact SeqAt.EqAt.same _
    | bl b => cases rx; exact SeqAt.EqAt.none_bool b
    | int b => obtain ⟨t, rfl⟩ := rx; exact SeqAt.EqAt.none_int b t
    | str b => obtain ⟨t, rfl⟩ := rx; exact SeqAt.EqAt.none_str b t
    | _ => exact absurd (show false = true from fx) Bool.false_ne_true
  | bl a =>
    cases ry
    cases x with
    | non => cases rx; exact SeqAt.EqAt.bool_none a
    | bl b => cases rx; exact SeqAt.EqAt.bool_bool a b
    | int b => obtain ⟨t, rfl⟩ := rx; exact SeqAt.EqAt.bool_int a b t
    | str b => obtain ⟨t, rfl⟩ := rx; exact SeqAt.EqAt.bool_str a b t
    | _ => exact absurd (show false = true from fx) Bool.false_ne_true
  | int a =>
    obtain ⟨t', rfl⟩ := ry
    cases x with
    | non => cases rx; exact SeqAt.EqAt.int_none a t'
    | bl b => cases rx; exact SeqAt.EqAt.int_bool a t' b
    | int b => obtain ⟨t, rfl⟩ := rx; exact SeqAt.EqAt.int_int a t' b t
    | str b => obtain ⟨t, rfl⟩ := rx; exact SeqAt.EqAt.int_str a t' b t
    | _ => exact absurd (show false = true from fx) Bool.false_ne_true
  | str a =>
    obtain ⟨t', rfl⟩ := ry
    cases x with
    | non => cases rx; exact SeqAt.EqAt.str_none a t'
    | bl b => cases rx; exact SeqAt.EqAt.str_bool a t' b
    | int b => obtain ⟨t, rfl⟩ := rx; exact SeqAt.EqAt.str_int a t' b t
    | str b => obtain ⟨t, rfl⟩ := rx; exact SeqAt.EqAt.str_str a t' b t
    | _ => exact absurd (show false = true from fx) Bool.false_ne_true
  | _ => exact absurd (show false = true from fy) Bool.false_ne_true
/-- the items' answers, read off the values (a value's own answer does not lean on its token) -/
def eqU (x : V) (u : Value) : Bool := match u with
  | .none => eqV .non x
  | .bool b => eqV (.bl b) x
  | .int i _ => eqV (.int i) x
  | .str z _ => eqV (.str z) x
  | _ => false
theorem eqU_of {x y : V} {u : Value} (r : RelV y u) (f : flatV y = true) : eqU x u = eqV y x := by
  cases y with
  | non => cases r; rfl
  | bl b => cases r; rfl
  | int i => obtain ⟨t, rfl⟩ := r; rfl
  | str z => obtain ⟨t, rfl⟩ := r; rfl
  | _ => exact absurd (show false = true from f) Bool.false_ne_true
theorem mem_eqAt {A : Around} {s : Shared} {x : V} {v : Value} (rx : RelV x v) (fx : flatV x = true) : ∀ {xs : List V} {us : List Value}, Vals xs us → xs.all flatV = true → ∀ u ∈ us, SeqAt.EqAt A s u v (eqU x u)
  | _, _, .nil, _ => fun u hu => by cases hu
  | y :: xs, u :: us, .cons r t, f => fun u' hu => by
    rw [List.all_cons, Bool.and_eq_true] at f
    rcases List.mem_cons.mp hu with rfl | hu
    · rw [eqU_of r f.1]; exact eqAt_V r rx f.1 fx
    · exact mem_eqAt rx fx t f.2 u' hu
/-- the value is of that builtin type -/
def tyV (K : PySem.W.Frag) (T : String) (x : V) (H : Hp) : Prop := match x with
  | .str _ => T = "str"
  | .int _ => T = "int"
  | .ref p => (T = "list" ∧ ∃ xs, SqL K H p xs) ∨ (T = "tuple" ∧ ∃ o, K.lookup p = some o ∧ o.cls = .type "tuple" ∧ o.dict = none) ∨
      (T = "dict" ∧ ((∃ kvs, H p = some (.dK kvs)) ∨ ∃ kvs, H p = some (.dT kvs))) ∨ (T = "set" ∧ ∃ S n, H p = some (.set S n))
  | _ => False
theorem tyV_is {pins : List (Addr × Obj)} {σ : St} {H : Hp} {s : Shared} {T : String} {x : V} {v : Value} (I : Inv X pins σ H s) (r : RelV x v) (ty : tyV X.K T x H) :
    s.TypeIs v T ∧ ∀ a, v = .ref a → ∃ ob, s.heap.get? a = some ob ∧ ob.dict = none := by
  cases x with
  | str z =>
    obtain ⟨t, rfl⟩ := r
    cases (show T = "str" from ty)
    exact ⟨typeIs_str s z t, fun _ e => nomatch e⟩
  | int i =>
    obtain ⟨t, rfl⟩ := r
    cases (show T = "int" from ty)
    exact ⟨typeIs_int s i t, fun _ e => nomatch e⟩
  | ref p =>
    cases r
    rcases ty with ⟨rfl, xs, hq⟩ | ⟨rfl, o, hk, hc, hd⟩ | ⟨rfl, hk⟩ | ⟨rfl, S, n, hk⟩
    · obtain ⟨its, _, pl, _⟩ := I.list hq
      refine ⟨pl.isList.typeIs, fun a e => ?_⟩
      cases e
      obtain ⟨o, n, e, c, hd, _⟩ := pl
      exact ⟨o, e, hd⟩
    · refine ⟨⟨o, I.kIn p o hk, hc⟩, fun a e => ?_⟩
      cases e
      exact ⟨o, I.kIn _ o hk, hd⟩
    · have z : ∃ o, s.heap.get? p = some o ∧ o.ExactDict := by
        rcases hk with ⟨kvs, hk⟩ | ⟨kvs, hk⟩
        · obtain ⟨_, _, _, _, o, _, _, e, ex, _⟩ := I.hok p _ hk
          exact ⟨o, e, ex⟩
        · obtain ⟨_, _, _, _, o, _, _, e, ex, _⟩ := I.hok p _ hk
          exact ⟨o, e, ex⟩
      obtain ⟨o, e, ex⟩ := z
      refine ⟨⟨o, e, ex.1⟩, fun a e2 => ?_⟩
      cases e2
      exact ⟨o, e, ex.2.1⟩
    · obtain ⟨o, _, _, _, e, ex, _⟩ := I.hok p _ hk
      refine ⟨⟨o, e, ex.1⟩, fun a e2 => ?_⟩
      cases e2
      exact ⟨o, e, ex.2.1⟩
  | _ => exact False.elim ty
def tBM (K : PySem.W.Frag) (T : String) (r : V → List V → Hp → VK → Prop) (to : TE) (t : TA) : TE := fun σ H Q => to σ H fun x H1 => tyV K T x H1 ∧ t σ H1 fun xs H2 => r x xs H2 Q
variable {o e : Expr} {es : List Expr} {to : TE} {t : TA} {name : Str} {apos cpos : Pos} {T id : String} {r : V → List V → Hp → VK → Prop}
theorem pe_bm (pa : PlainAttrs T) (slot : Slot T name id) (hty : typeOf (.builtin id) = pure (.type "method_descriptor")) (hm : MtR X id r) (ho : PE X o to) (ha : PA X (e :: es) t)
    (hbase : attributeBase o name X.env (eval o X.env) = eval o X.env := by rfl)
    (hfew : ((backTo cpos (starEach (e :: es) X.env)).all (fun x => !x.1) && (backToKw cpos (keywordEach [] X.env)).all (fun x => x.1.isSome)
      && decide ((e :: es).length + ([] : List Keyword).length + (if ([] : List Keyword).isEmpty then 0 else 1) < 30)) = true := by rfl)
    (hline : (apos.endLine == cpos.line) = true := by rfl) (hs : starEach (e :: es) X.env = (false, eval e X.env) :: starEach es X.env := by rfl) (hplain : (backTo cpos (starEach es X.env)).any (·.1) = false := by rfl) :
    PE X (.Call (.Attribute o name apos) (e :: es) [] cpos) (tBM X.K T r to t) := by
  intro pins s σ H Q I h
  refine wpAny_Call_method_late hbase hfew hline rfl (thn (ho pins s σ H _ I h) fun v s1 ⟨x, H1, I1, r1, ty, q1⟩ => ?_)
  obtain ⟨h1, h2⟩ := tyV_is I1 r1 ty
  refine ⟨T, id, pa, slot, hty, h1, h2, ?_⟩
  have hA := ha cpos pins s1 σ H1 _ I1 q1
  rw [hs] at hA ⊢
  refine Calls.callWith_builtin (by show (false || (backTo cpos (starEach es X.env)).any (·.1)) = false; rw [hplain] <;> rfl) (Calls.evalArgs_plain ?_)
  exact thn hA fun us s2 ⟨vs, H2, I2, r2, q2⟩ => hm pins s2 σ H2 x vs v us Q I2 r1 r2 q2
end
end L2

namespace L2
open PySem PySem.Spec PyProof.Rows

def MtM (X : Cx) (id : String) (r : V → List V → Hp → VK → Prop) : Prop :=
  ∀ (pins : List (Addr × Obj)) (s : Shared) (σ : St) (H : Hp) (x : V) (xs : List V) (v : Value) (us : List Value) (Q : VK), Inv X pins σ H s → RelV x v → Vals xs us → r x xs H Q →
    wpAny (model X.prog X.w) X.A (call (.builtin id) (v :: us)) (EP X pins σ Q) X.xe s

theorem Vals.one : ∀ {x : V} {us : List Value}, Vals [x] us → ∃ u, us = [u] ∧ RelV x u
  | _, _, .cons r .nil => ⟨_, rfl, r⟩
theorem Vals.rep {xs : List V} {us : List Value} (h : Vals xs us) : ∀ k : Nat, Vals (List.replicate k xs).flatten (List.replicate k us).flatten
  | 0 => .nil
  | k + 1 => by
    rw [List.replicate_succ, List.replicate_succ, List.flatten_cons, List.flatten_cons]
    exact Vals.append h (Vals.rep h k)
theorem foldl_rep (its : List Value) : ∀ (k : Nat) (acc : List Value),
    List.foldl (fun x1 x2 => x1 ++ x2) acc.toArray (List.replicate k its.toArray) = (acc ++ (List.replicate k its).flatten).toArray
  | 0, acc => by simp
  | k + 1, acc => by
    have e : acc.toArray ++ its.toArray = (acc ++ its).toArray := by simp
    have e2 : (acc ++ its) ++ (List.replicate k its).flatten = acc ++ (List.replicate (k + 1) its).flatten := by
      rw [List.replicate_succ, List.flatten_cons, List.append_assoc]
    rw [← e2, ← foldl_rep its k (acc ++ its), ← e, List.replicate_succ, List.foldl_cons]

section
variable {X : Cx} {pins : List (Addr × Obj)} {σ : St} {H : Hp} {s : Shared} {l b : Addr} {xs ys zs : List V}

theorem Inv.lset {its its' : List Value} {n : Nat} {f : Array Value → Array Value} {t' : Nat} (I : Inv X pins σ H s) (hH : H l = some (.lst xs))
    (e : s.heap.get? l = some { cls := .type "list", data := .seq its.toArray n }) (hf : f its.toArray = its'.toArray) (hv : Vals ys its') (hz : ys.length ≤ sizeLine) :
    Inv X pins σ (upd H l (.lst ys)) { s with heap := s.heap.update l (Obj.mapSeq f), toks := t' } := by
  have q := PySem.IsL.update e f
  rw [hf] at q
  refine I.write (x := l) (e := l) (by rw [hH]; exact trivial) (.inl rfl) (fun b' u hb hu => (Heap.get?_update_other s.heap (Obj.mapSeq f) (Ne.symm hb)).trans hu) ⟨_, q⟩ ?_
  exact ⟨hz, its', _, hv, q⟩
theorem Inv.lnew {its : List Value} {t' : Nat} (I : Inv X pins σ H s) (hv : Vals ys its) (hz : ys.length ≤ sizeLine) :
    Inv X pins σ (upd H s.heap.objs.size (.lst ys)) { s with heap := s.heap.push { cls := .type "list", data := .seq its.toArray }, toks := t' } :=
  I.laid (fun _ _ q => Heap.get?_push_of_some _ q) (Nat.le_refl _) ⟨hz, its, 0, hv, Heap.get?_push_size _ rfl⟩
theorem Inv.fresh (I : Inv X pins σ H s) : H s.heap.objs.size = none := I.hok.fresh (Nat.le_refl _)
theorem Inv.lstM (I : Inv X pins σ H s) (hH : H l = some (.lst xs)) : xs.length ≤ sizeLine ∧ ∃ (its : List Value) (n : Nat), Vals xs its ∧ xs.length = its.length ∧ s.heap.get? l = some { cls := .type "list", data := .seq its.toArray n } := by
  obtain ⟨z, its, n, r, e⟩ := I.hok l _ hH
  exact ⟨z, its, n, r, r.length, e⟩

theorem notLongL {n : Nat} (h : n ≤ sizeLine) : Builtin.List.listTooLong n = false := by
  unfold Builtin.List.listTooLong
  exact decide_eq_false (by omega)
end

section
variable {X : Cx}

def rAppend : V → List V → Hp → VK → Prop := fun x vs H Q => ∃ l xs y, x = .ref l ∧ vs = [y] ∧ H l = some (.lst xs) ∧ xs.length < sizeLine ∧ Q .non (upd H l (.lst (xs ++ [y])))
theorem mt_append : MtM X "list.append" rAppend := by
  intro pins s σ H x vs v us Q I rx rv h
  obtain ⟨l, xs, y, rfl, rfl, hH, hz, q⟩ := h
  cases rx
  obtain ⟨u, rfl, ru⟩ := rv.one
  obtain ⟨z, its, n, r, hl, e⟩ := I.lstM hH
  refine call_meets F.slot_list_append ⟨_, e, rfl⟩ F.entry_list_append (F.args_list_append_2 _ _) (PySem.list_append l its.toArray n u (by rw [List.size_toArray]; omega)) ⟨e, ?_⟩
  refine ⟨.non, _, I.lset (its' := its ++ [u]) hH e (by simp) (r.append (.cons ru .nil)) ?_, rfl, q⟩
  rw [List.length_append, List.length_singleton]
  omega

def rExtend : V → List V → Hp → VK → Prop := fun x vs H Q => ∃ l b xs zs, x = .ref l ∧ vs = [.ref b] ∧ H l = some (.lst xs) ∧ H b = some (.lst zs) ∧ xs.length + zs.length ≤ sizeLine ∧ Q .non (upd H l (.lst (xs ++ zs)))
theorem mt_extend : MtM X "list.extend" rExtend := by
  intro pins s σ H x vs v us Q I rx rv h
  obtain ⟨l, b, xs, zs, rfl, rfl, hH, hB, hz, q⟩ := h
  cases rx
  obtain ⟨u, rfl, ru⟩ := rv.one
  cases ru
  obtain ⟨z, its, n, r, hl, e⟩ := I.lstM hH
  obtain ⟨z2, its2, n2, r2, hl2, e2⟩ := I.lstM hB
  have hsz : its.toArray.size + its2.toArray.size ≤ sizeLine := by rw [List.size_toArray, List.size_toArray]; omega
  have hlong : ¬ (!its.toArray.isEmpty && Builtin.List.listTooLong (its.toArray.size + its2.toArray.size)) = true := by
    rw [notLongL hsz, Bool.and_false]
    exact Bool.false_ne_true
  refine call_meets F.slot_list_extend ⟨_, e, rfl⟩ F.entry_list_extend (F.args_list_extend_2 _ _)
    (AutoSeq1.list_extend_list_list_0 l its.toArray n b its2.toArray n2 hlong (by rw [List.size_toArray]; omega) (by omega)) ⟨e, e2, ?_⟩
  refine ⟨.non, _, I.lset (its' := its ++ its2) hH e (by simp) (r.append r2) ?_, rfl, q⟩
  rw [List.length_append]
  omega

def rCat : R2 := fun x y H Q => ∃ l b xs zs, x = .ref l ∧ y = .ref b ∧ H l = some (.lst xs) ∧ H b = some (.lst zs) ∧ xs.length + zs.length ≤ sizeLine ∧ ∀ p, H p = none → Q (.ref p) (upd H p (.lst (xs ++ zs)))
theorem op_cat : OpR X (binaryOp .Add) rCat := by
  intro pins s σ H x y v u Q I rx ry h
  obtain ⟨l, b, xs, zs, rfl, rfl, hH, hB, hz, q⟩ := h
  cases rx
  cases ry
  obtain ⟨z, its, n, r, hl, e⟩ := I.lstM hH
  obtain ⟨z2, its2, n2, r2, hl2, e2⟩ := I.lstM hB
  refine PySem.P.add_list e e2 ?_ (by rw [List.size_toArray, List.size_toArray]; omega)
  have ea : its.toArray ++ its2.toArray = (its ++ its2).toArray := by simp
  rw [ea]
  exact ⟨.ref _, _, I.lnew (t' := s.toks) (r.append r2) (by rw [List.length_append]; omega), rfl, q _ I.fresh⟩
/-- a list times an int (a negative one is nothing) -/
def rRep : R2 := fun x y H Q => ∃ l k xs, x = .ref l ∧ y = .int k ∧ H l = some (.lst xs) ∧ -(2 ^ 63) ≤ k ∧ k < 2 ^ 63 ∧ xs.length * k.toNat ≤ sizeLine ∧
  ∀ p, H p = none → Q (.ref p) (upd H p (.lst (List.replicate k.toNat xs).flatten))
theorem len_rep {α : Type} (xs : List α) (k : Nat) : (List.replicate k xs).flatten.length = k * xs.length := by
  induction k with
  | zero => simp
  | succ k ih => rw [List.replicate_succ, List.flatten_cons, List.length_append, ih, Nat.succ_mul, Nat.add_comm]
theorem op_rep : OpR X (binaryOp .Mult) rRep := by
  intro pins s σ H x y v u Q I rx ry h
  obtain ⟨l, k, xs, rfl, rfl, hH, h1, h2, hz, q⟩ := h
  cases rx
  obtain ⟨t, rfl⟩ := ry
  obtain ⟨z, its, n, r, hl, e⟩ := I.lstM hH
  have hlen : its.toArray.size * k.toNat ≤ sizeLine := by rw [List.size_toArray, ← hl]; exact hz
  have hcap : ¬ its.toArray.size * k.toNat > (2 ^ 63 - 1) / 8 := by
    have : (sizeLine : Nat) ≤ (2 ^ 63 - 1) / 8 := by decide
    omega
  have hfit : ¬ (!Builtin.List.listFitsIndex k) = true := by
    rw [fitsIndex_both h1 h2]
    exact Bool.false_ne_true
  have hlong : ¬ Builtin.List.listTooLong (its.toArray.size * k.toNat) = true := by
    rw [notLongL hlen]
    exact Bool.false_ne_true
  have hnew : List.foldl (fun x1 x2 => x1 ++ x2) #[] (List.replicate (if its.toArray.isEmpty = true then 0 else k.toNat) its.toArray) = (List.replicate k.toNat its).flatten.toArray := by
    have f0 : ∀ m : Nat, List.foldl (fun x1 x2 => x1 ++ x2) #[] (List.replicate m its.toArray) = (List.replicate m its).flatten.toArray := fun m => by
      have := foldl_rep its m []
      rw [List.nil_append] at this
      exact this
    rw [f0]
    cases its with
    | nil => simp
    | cons a r' => rw [if_neg (by simp)]
  refine wpAny_binaryOp_repeat_ref (T := "list") (U := "int") (by decide) ⟨_, e, rfl⟩ (fun s' => typeIs_int s' k t) noFill_list_mul F.fills_int_mul F.slot_int_rmul repeat_list F.slot_int_index.lookup
    (call_meets F.slot_int_rmul (typeIs_int s k t) F.entry_int_rmul (F.args_int_rmul_2 _ _) (int___rmul___int_list k t l its.toArray n)
      ⟨e, rfl, ⟨_, e, rfl⟩, call_meets F.slot_list_mul ⟨_, e, rfl⟩ F.entry_list_mul (F.args_list_mul_2 _ _) (AutoListH.list___mul___list_int_3 l its.toArray n k t hfit hcap hlong) ⟨e, ?_⟩⟩)
  rw [hnew]
  exact ⟨.ref _, _, I.lnew (t' := s.toks) (r.rep k.toNat) (by rw [len_rep, Nat.mul_comm]; exact hz), rfl, q _ I.fresh⟩

end

section
variable {prog : Program} {w : World} {A : Around} {E : Value → Shared → Prop} {s : Shared}
end

section
variable {X : Cx}
end
end L2

namespace Att
open PySem PySem.W PySem.Calls PyProof.Rows

theorem ints_of_wellAll {P : Params} {h : Heap} : ∀ (ns : List Int) (vs : List Value), WellAll P h vs (ns.map WData.int) → IntsAre vs ns := by
  intro ns
  induction ns with
  | nil =>
    intro vs w
    rw [List.map_nil] at w
    cases w
    exact .nil
  | cons n ns ih =>
    intro vs w
    rw [List.map_cons] at w
    cases w with
    | cons a b =>
      cases a
      exact .cons _ _ (ih _ b)

theorem script_of {l : OpenLaw} {n : Nat} (hn : l.most = some n) {P : Params} {h : Heap} {args : List WData} {vals : List Value}
    (hpre : l.row.toRowW.claim.pre args = true) (hwl : WellAll P h vals args) :
    ∃ a vs ns, vals = [Value.ref a] ∧ args = [WData.list (ns.map WData.int)] ∧ h.get? a = some { cls := .type "list", data := .seq vs.toArray } ∧ IntsAre vs ns ∧ ns.length ≤ n := by
  have hsh : WShape.hasAll [] args [.list .int] = true := (pre_splitW hpre).1
  have hc : l.pre.holds [] { args := args } = true := (pre_splitW hpre).2
  obtain ⟨d, r, rfl, h1, h2⟩ := hasAllW_cons hsh
  obtain rfl := hasAllW_nil h2
  obtain ⟨xs, rfl, h3⟩ := hasW_list h1
  obtain ⟨ns, rfl⟩ := items_int h3
  have hlen : ns.length ≤ n := by
    unfold OpenLaw.pre at hc
    have h4 : (WTm.not (.lt (.lit (.int (n : Int))) (.len (.arg 0)))).holds [] { args := [.list (ns.map .int)] } = true := by
      have h4 := (holds_andW hc).1
      rw [hn] at h4
      exact h4
    have h5 := condW_of h4 (w_not (w_lt w_lit (w_len_list (w_arg rfl))))
    rw [List.length_map] at h5
    refine Nat.le_of_not_lt fun q => ?_
    have q' : (n : Int) < ((ns.length : Nat) : Int) := by omega
    first
      | (rw [decide_eq_true q'] at h5; exact absurd h5 (by decide))
      | (simp at h5; omega)
  cases hwl with
  | cons w1 w2 =>
    cases w2
    cases w1 with
    | list ho hall => exact ⟨_, _, ns, rfl, rfl, ho, ints_of_wellAll ns _ hall, hlen⟩

theorem post_true (l : OpenLaw) (args : List WData) : l.row.toRowW.claim.post args (.bool true) args = true :=
  postW_of (r := l.row.toRowW) (X := (true == true))
    (show WShape.has [] (.bool true) .bool = true by first | rfl | decide | simp [WShape.has, WShape.arms, WShape.armsAll])
    (show (WTm.eq .res (.lit (.bool true))).value [] { args := args, res := some (.bool true), after := args } = some (.bool (true == true)) from w_eq_bool (w_res rfl) w_lit) rfl

/-- the same from a codeAny of the CALL (for a layer whose function contracts speak of calls) -/
theorem attach_call {l : OpenLaw} {n : Nat} {q : Program} {loose : List Str} {XP : (Str → Option Value) → Heap → Prop} {YP : World → Heap → Prop} {d : DefRec}
    (hn : l.most = some n) (hdf : d.params.defaults = [])
    (call : ∀ (w : World) (s₀ s₁ : Shared) (mg mb : Str → Option Value) (fa : Addr) (o : Obj) (pm cd doc : Value) (a : Addr) (vs : List Value) (ns : List Int),
      Ground q loose [] XP w s₀ mg mb s₁.heap → YP w s₁.heap →
      s₁.heap.get? fa = some o → o.data = .func (docDef d.name d.params d.body d.scope pm cd doc) → s₁.heap.CodeRec cd d.name → mg d.name = some (.ref fa) →
      s₁.heap.get? a = some { cls := .type "list", data := .seq vs.toArray } → IntsAre vs ns → ns.length ≤ n → s₁.gens = #[] →
      codeAny (model l.prog w) callerA (.call (.ref fa) ⟨[.ref a], []⟩) (fun r s' => r = .ok (.ret (.bool true)) ∧ OldK s₁.heap s'.heap ∧ s'.os = s₁.os ∧ AllBare s'.gens) s₁) :
    WalkO q loose XP YP l.row.toRowW d [] (fun f vs => PySem.call f vs) := by
  intro w s₀ s₁ mg mb G Y fa o pm cd doc dV kV ho hd hcd hD hmg hg args vals as hpre hlay hrd hwl hlo
  obtain rfl : dV = .none := Dflts.none hD hdf
  obtain rfl : kV = .none := Dflts.noKw hD
  obtain ⟨a, vs, ns, rfl, rfl, hobj, hints, hlen⟩ := script_of hn hpre hwl
  refine enter_call (codeAny_mono (call w s₀ s₁ mg mb fa o pm cd doc a vs ns G Y ho (fd_plain hd) hcd hmg hobj hints hlen hg) fun r s' hq => ?_)
  obtain ⟨rfl, h2, h3, h4⟩ := hq
  exact ⟨.inl ⟨.bool true, .bool true, [], rfl, fun _ => rfl, .bool true, post_true l _, fun _ => ⟨List.Pairwise.nil, fun _ hm => (nomatch hm)⟩⟩, h2, h3, h4⟩

section
variable {prog : Program} {w : World} {A : Around} {E : Value → Shared → Prop} {s : Shared} {K : Frag}

end
end Att

namespace L2
open PySem PySem.Spec PyProof.Rows

theorem vals_ints : ∀ {vs : List Value} {ns : List Int}, IntsAre vs ns → Vals (ns.map V.int) vs
  | _, _, .nil => .nil
  | _, _, .cons n t h => .cons ⟨t, rfl⟩ (vals_ints h)

/-- nothing is tracked but the script, known to the object (or it is an object of the module) -/
def Only (H : Hp) : Prop := ∀ b, H b = none ∨ ∃ o xs, H b = some (.frz o (.lst xs))

/-- THE HEAD: the law's promise, at the heap behind the top. F, the promise of the law's def, may use that base is part of the heap (so K.In base, base.Ns mainGlobals mg stand in Mod) -/
theorem law_call {P : Program} {w : World} {K : PySem.W.Frag} {mg mb : Str → Option Value} {CX : CXT} {k : Nat} {fa a : Addr} {fd : FuncData} {x : Str} {sp : Sp} {s₁ : Shared} {vs : List Value} {ns : List Int}
    (KX : K.In s₁.heap) (hns : s₁.heap.Ns mainGlobals mg) (hb : s₁.heap.Ns builtinsNs mb) (hbb : ∀ x : Str, x ≠ "__name__" → mb x = bootBuiltins x) (hlim : s₁.heap.NoLimit) (hg : s₁.gens = #[])
    (ha : s₁.heap.get? a = some { cls := .type "list", data := .seq vs.toArray }) (hi : IntsAre vs ns) (hl : ns.length ≤ sizeLine) (hr : Room k callerA)
    (F : ∀ base : Heap, K.In base → base.Ns mainGlobals mg → FnOk P w K mg base CX k fa fd [x] sp) (hbind : ∀ (s : Shared) (u : Value), BindsTo s fd ⟨[u], []⟩ [(x, u)])
    (hsp : ∀ H : Hp, Only H → SqL K H a (ns.map V.int) → sp [.ref a] H (fun v _ => v = .bl true) fun _ _ _ => False)
    (hCX : ∀ H e s', CX [] H s₁ (fun _ _ _ => False) e s' → False) :
    codeAny (model P w) callerA (.call (.ref fa) ⟨[.ref a], []⟩) (fun r s' => r = .ok (.ret (.bool true)) ∧ OldK s₁.heap s'.heap ∧ s'.os = s₁.os ∧ AllBare s'.gens) s₁ := by
  have rv := vals_ints hi
  have lenV := hi.length
  -- from an abstract heap in which nothing but the script may be tracked
  have core : ∀ H : Hp, Only H → SqL K H a (ns.map V.int) → HOk P w H s₁.heap → (∀ b, H b ≠ none → b = a) → (H a ≠ none → K.lookup a = none) →
      codeAny (model P w) callerA (.call (.ref fa) ⟨[.ref a], []⟩) (fun r s' => r = .ok (.ret (.bool true)) ∧ OldK s₁.heap s'.heap ∧ s'.os = s₁.os ∧ AllBare s'.gens) s₁ := by
    intro H hO hS hok hA hK
    have base_of : ∀ {b : Addr} {o : Obj}, s₁.heap.get? b = some o → H b = none → (hidT s₁.heap H).get? b = some o := fun e n => hidT_get e n
    have noA : ∀ {b : Addr} {o : Obj} {es : Array DictEntry} {ep : Nat}, s₁.heap.get? b = some o → o.data = .dict es ep → H b = none := fun {b o es ep} e d => by
      cases q : H b with
      | none => rfl
      | some u =>
        have e' : b = a := hA b (by rw [q]; simp)
        subst e'
        rw [ha] at e; cases e
        have d' : Data.seq vs.toArray _ = Data.dict es ep := d
        cases d'
    have nsK : ∀ {b : Addr} {m : Str → Option Value}, s₁.heap.Ns b m → (hidT s₁.heap H).Ns b m := fun {b m} ⟨o, es, ep, e, d, r⟩ => ⟨o, es, ep, base_of e (noA e d), d, r⟩
    have hKb : K.In (hidT s₁.heap H) := fun b o e => base_of (KX b o e) (by
      cases q : H b with
      | none => rfl
      | some u =>
        have e' : b = a := hA b (by rw [q]; simp)
        subst e'
        rw [hK (by rw [q]; simp)] at e; cases e)
    have hM : Mod K mg (hidT s₁.heap H) := ⟨hKb, nsK hns, ⟨mb, nsK hb, hbb⟩, let ⟨mc, h1, h2⟩ := hlim; ⟨mc, nsK h1, h2⟩⟩
    have e0 : Env0 P w K mg (hidT s₁.heap H) callerA [] s₁ H := ⟨rfl, hM, fun b o e => of_hidT e, Nat.le_of_eq (hidT_size _ _), trivial, fun b hb => absurd (show b ∈ ([] : List Addr) from hb) (by simp), hok, .of_eq hg⟩
    refine codeAny_mono ((F _ hKb (nsK hns)).run callerA [] s₁ H ⟨[.ref a], []⟩ [.ref a] [.ref a] _ _ hr e0 (hbind s₁ (.ref a)) (.cons rfl .nil) (hsp H hO hS)) fun r s' h => ?_
    cases r with
    | error e => exact (hCX H e s' h).elim
    | ok fl =>
      cases fl with
      | next => exact False.elim h
      | brk => exact False.elim h
      | cont => exact False.elim h
      | ret u =>
        obtain ⟨v, H', os, bare, un, hok', r', q⟩ := h
        have q' : v = .bl true := q
        subst q'
        obtain rfl : u = Value.bool true := r'
        refine ⟨rfl, OldK.of_keep fun b o e => ?_, os, bare⟩
        cases q : H b with
        | none => exact un.keep b o e q (by intro z; exact absurd (show b ∈ ([] : List Addr) from z) (by simp)) (by simp)
        | some u =>
          rcases hO b with z | ⟨ob, xs, z⟩
          · rw [q] at z; cases z
          · have z2 := un.frzs b ob _ z
            obtain ⟨e1, _⟩ := hok b _ z
            obtain ⟨e2, _⟩ := hok' b _ z2
            rw [e] at e1; cases e1
            exact e2
  cases hk : K.lookup a with
  | some o =>
    -- the script is one of the module's own objects
    have e := KX a o hk
    rw [ha] at e
    cases e
    refine core (fun _ => none) (fun _ => .inl rfl) (.inr ⟨_, vs.toArray, _, hk, rfl, rfl, rfl, by rw [List.size_toArray, lenV]; exact hl, by simpa using rv⟩) (fun b u z => by have z' : (none : Option HO) = some u := z; cases z') (fun b z => absurd rfl z) fun z => absurd rfl z
  | none =>
    refine core (fun b => if b = a then some (.frz { cls := .type "list", data := .seq vs.toArray } (.lst (ns.map V.int))) else none) (fun b => ?_) (.inl (.inr ⟨{ cls := .type "list", data := .seq vs.toArray }, if_pos rfl⟩)) (fun b u z => ?_) (fun b z => ?_) fun _ => hk
    · by_cases hb : b = a
      · exact .inr ⟨_, _, if_pos hb⟩
      · exact .inl (if_neg hb)
    · by_cases hb : b = a
      · have z' := (if_pos hb).symm.trans z
        cases z'
        subst hb
        exact ⟨ha, by rw [List.length_map]; exact hl, vs, _, rv, ha⟩
      · have z' := (if_neg hb).symm.trans z
        cases z'
    · by_cases hb : b = a
      · exact hb
      · exact absurd (if_neg hb) z
end L2

namespace L2
open PySem PySem.Spec PyProof.Rows

/-- the goal that k_head leaves (case hc), from the law's promise. F gives the function object fd (K's own) once, then the promise over every base -/
theorem walk_of {l : PySem.W.OpenLaw} {n k : Nat} {q : Program} {loose : List Str} {XP : (Str → Option Value) → Heap → Prop} {YP : World → Heap → Prop} {d : DefRec} {K : Params → PySem.W.Frag} {CX : World → CXT} {sp : World → Sp} {x : Str}
    (hn : l.most = some n) (hn2 : n ≤ sizeLine) (hdf : d.params.defaults = []) (hr : Room k callerA)
    (hY : ∀ (w : World) (h : Heap), YP w h → (K w.params).In h)
    (F : ∀ (w : World) (mg : Str → Option Value) (fa : Addr) (h : Heap), (K w.params).In h → h.Ns mainGlobals mg → mg d.name = some (.ref fa) →
      ∃ fd : FuncData, (∀ (s : Shared) (u : Value), BindsTo s fd ⟨[u], []⟩ [(x, u)]) ∧
        ∀ base : Heap, (K w.params).In base → base.Ns mainGlobals mg → FnOk l.prog w (K w.params) mg base (CX w) k fa fd [x] (sp w))
    (hsp : ∀ (w : World) (H : Hp) (a : Addr) (ns : List Int), ns.length ≤ n → Only H → SqL (K w.params) H a (ns.map V.int) → sp w [.ref a] H (fun v _ => v = .bl true) fun _ _ _ => False)
    (hCX : ∀ (w : World) (H : Hp) (s : Shared) (e : Value) (s' : Shared), CX w [] H s (fun _ _ _ => False) e s' → False) :
    PySem.W.WalkO q loose XP YP l.row.toRowW d [] (fun f vs => PySem.call f vs) := by
  refine Att.attach_call hn hdf fun w s₀ s₁ mg mb fa o pm cd doc a vs ns G Y ho hd hcd hmg hobj hints hlen hg => ?_
  have KX := hY w _ Y
  obtain ⟨fd, hb, hF⟩ := F w mg fa _ KX G.T.g hmg
  exact law_call KX G.T.g G.T.b G.T.builtins G.T.nolimit hg hobj hints (Nat.le_trans hlen hn2) hr hF hb (fun H hO hS => hsp w H a ns hlen hO hS) fun H e s' => hCX w H s₁ e s'
end L2


namespace L2
open PySem PySem.Spec PyProof.Rows

def defArgs (s : Stmt) : Arguments := match s with
  | .FunctionDef _ a _ _ _ _ _ _ _ _ => a
  | _ => { posonlyargs := [], args := [], vararg := none, kwonlyargs := [], kw_defaults := [], kwarg := none, defaults := [] }
def defBody (s : Stmt) : List Stmt := match s with
  | .FunctionDef _ _ b _ _ _ _ _ _ _ => b
  | _ => []
def defScope (s : Stmt) : Scope := match s with
  | .FunctionDef _ _ _ _ _ _ sc _ _ _ => sc
  | _ => { kind := .function, names := [], isGenerator := false, isCoroutine := false }

abbrev CX0 : CXT := fun _ _ _ _ _ _ => False
abbrev E0 : XK := fun _ _ _ => False
theorem pass0 {X : Cx} : Passes CX0 X E0 := fun _ _ _ _ _ _ _ h => h.elim

structure Fun (K : PySem.W.Frag) (x qual : Str) (st : Stmt) (f : Addr) (fd : FuncData) : Prop where
  ex : ∃ (oc : Value) (od : Option Addr) (kV doc pm : Value) (an : Option Addr) (cdv ct : Value) (osl : Array (Option Value)),
    fd = PySem.W.fnOf x qual (defArgs st) (defBody st) (defScope st) .none kV doc pm an cdv ct ∧ K.lookup f = some ⟨oc, od, .func fd, osl⟩ ∧ PySem.W.codeIn K cdv qual = true
  kp : PySem.W.keepIn K (.ref f) = true
section
variable {P : Program} {w : World} {K : PySem.W.Frag} {mg : Str → Option Value} {base : Heap}
/-- THE RULE for a def: its body as a term of rules, and the reading of that term -/
theorem Fun.ok {x qual : Str} {st : Stmt} {f : Addr} {fd : FuncData} {N ps : List Str} {k : Nat} {sp : Sp} (F : Fun K x qual st f fd) (S : FnScope N ps (defScope st)) (len : ∀ vs H Q E, sp vs H Q E → vs.length = ps.length)
    (hbody : ∀ (cdv : Value) (A : Around) (outer : List Env) (s : Shared) (H : Hp) (vs : List V) (Q : VK) (E : XK), Room k (A.deeper (envOfC qual (defScope st) s.heap.objs.size f cdv)) → sp vs H Q E →
      ∃ t, PSs (cxOf CX0 P w K mg base N qual (defScope st) f cdv A outer s H E).nox (defBody st) t ∧ t { nx := fun _ H' => Q .non H', rt := Q } (start N vs) H) : FnOk P w K mg base CX0 (k + 1) f fd ps sp := by
  obtain ⟨oc, od, kV, doc, pm, an, cdv, ct, osl, rfl, lk, hcd⟩ := F.ex
  refine fn_of lk hcd S len fun A outer s H vs Q E hr hsp => ?_
  obtain ⟨t, h, q⟩ := hbody cdv A outer s H vs Q E hr hsp
  exact ⟨t, h.nox, q⟩
/-- how its arguments bind (no defaults): h is «fun _ _ _ _ _ _ us hl => match us, hl with | [_, _], _ => rfl», one _ a parameter -/
theorem Fun.binds {x qual : Str} {st : Stmt} {f : Addr} {fd : FuncData} {ps : List Str} (F : Fun K x qual st f fd)
    (h : ∀ (kV doc pm : Value) (an : Option Addr) (cdv ct : Value) (us : List Value), us.length = ps.length → bindArgs (PySem.W.fnOf x qual (defArgs st) (defBody st) (defScope st) .none kV doc pm an cdv ct) ⟨us, []⟩ = pure (ps.zip us)) : Binds K fd ps [] := by
  obtain ⟨oc, od, kV, doc, pm, an, cdv, ct, osl, rfl, lk, hcd⟩ := F.ex
  exact .all (h kV doc pm an cdv ct)
theorem fun_mk {x qual : Str} {st : Stmt} {f : Addr} {oc : Value} {od an : Option Addr} {osl : Array (Option Value)} {kV doc pm cdv ct : Value} (l : K.lookup f = some ⟨oc, od, .func (PySem.W.fnOf x qual (defArgs st) (defBody st) (defScope st) .none kV doc pm an cdv ct), osl⟩)
    (c : PySem.W.codeIn K cdv qual = true) (k : PySem.W.keepIn K (.ref f) = true) : Fun K x qual st f (PySem.W.fnOf x qual (defArgs st) (defBody st) (defScope st) .none kV doc pm an cdv ct) := ⟨⟨oc, od, kV, doc, pm, an, cdv, ct, osl, rfl, l, c⟩, k⟩
end
theorem small1000 {n : Nat} (h : n ≤ 1000) : n < sizeLine := Nat.lt_of_le_of_lt h (by decide)

section
variable {X : Cx}
theorem pv (i : Nat) {x : Str} {pos : Pos} (hN : X.N[i]? = some x := by rfl) (hv : Vis X.env.scope x := by first | exact Or.inl rfl | exact Or.inr (Or.inl rfl) | exact Or.inr (Or.inr rfl)) (hd : (x == ("__debug__" : Str)) = false := by decide)
    (hcd : (x == ("__classdict__" : Str)) = false := by decide) : PE X (.Name x pos) (tVar i) := pe_var hN hv hd hcd
end

/-- all that was tracked is as it was -/
def Same (H H' : Hp) : Prop := ∀ b o, H b = some o → H' b = some o
theorem Same.refl (H : Hp) : Same H H := fun _ _ h => h
theorem Same.trans {H H1 H2 : Hp} (a : Same H H1) (b : Same H1 H2) : Same H H2 := fun c o h => b c o (a c o h)
theorem Same.free {H H' : Hp} (e : Same H H') {l : Addr} (h : H' l = Option.none) : H l = Option.none := by
  cases q : H l with
  | none => rfl
  | some o =>
    rw [e l o q] at h
    cases h
theorem Same.seq {K : PySem.W.Frag} {H H' : Hp} {a : Addr} {xs : List V} (e : Same H H') (h : SqL K H a xs) : SqL K H' a xs := by
  rcases h with (h | ⟨o, h⟩) | h
  · exact .inl (.inl (e _ _ h))
  · exact .inl (.inr ⟨o, e _ _ h⟩)
  · exact .inr h

end L2

namespace TB
open PySem PySem.Spec PySem.W PyProof.Rows
section
variable {prog : Program} {w : World} {A : Around} {E : Value → Shared → Prop} {s : Shared}
theorem is_int {k : Int} {v : Value} (h : (intKind prog w).is k v = true) : ∃ t, v = .int k t := Value.isInt_shape (k := k) (v := v) h
theorem lex_of {fl fin : Bool} {Q : Bool → Shared → Prop} : ∀ {x y : List Int} {xs ys : List Value} (i : Nat), ItemsAre (intKind prog w) x xs → ItemsAre (intKind prog w) y ys → fin = decide (xs.length < ys.length) → Q (HT.lexLt x y) s → KatLex prog w A fl fin Q (xs.zip ys) i s
  | [], [], _, _, i, .nil, .nil, hf, h => by
    subst hf
    exact kat_nil h
  | [], _ :: _, _, _, i, .nil, .cons _ _, hf, h => by
    subst hf
    refine kat_nil ?_
    rw [HT.lexLt_nil_cons] at h
    simpa using h
  | _ :: _, [], _, _, i, .cons _ _, .nil, hf, h => by
    subst hf
    refine kat_nil ?_
    rw [HT.lexLt_cons_nil] at h
    simpa using h
  | a :: x, b :: y, _, _, i, .cons h1 t1, .cons h2 t2, hf, h => by
    rw [List.zip_cons_cons]
    refine kat_cons ((intKind prog w).eqBool (a := a) (b := b) h1 h2 ?_)
    obtain ⟨t, rfl⟩ := is_int h1
    obtain ⟨u, rfl⟩ := is_int h2
    rw [HT.lexLt_cons] at h
    by_cases c : a = b
    · rw [decide_eq_true c]
      rw [if_pos c] at h
      exact kat_yes (lex_of (i + 1) t1 t2 (by rw [hf]; simp) h)
    · rw [decide_eq_false c]
      rw [if_neg c] at h
      refine kat_no ?_
      cases e : (fl && i == 0) with
      | true => exact oneLt_int h
      | false => exact kat_one _ _ (lt_int h)
theorem lt_tup {x y : List Int} {a b : Addr} {fl : Bool} {Q : Bool → Shared → Prop} (hx : IsTupleKey (intKind prog w) s.heap x a) (hy : IsTupleKey (intKind prog w) s.heap y b) (h : Q (HT.lexLt x y) s) : wpAny (model prog w) A (keyLt' (tuples' fl) (.ref a) (.ref b)) Q E s := by
  obtain ⟨o, xs, n, ho, _, hd, hi⟩ := hx
  obtain ⟨o', ys, n', ho', _, hd', hi'⟩ := hy
  exact kat_lt ho hd ho' hd' (lex_of 0 hi hi' (by simp) h)

theorem lex_irrefl : ∀ x : List Int, HT.lexLt x x = false
  | [] => rfl
  | a :: x => by rw [HT.lexLt_cons, if_pos rfl, lex_irrefl x]
theorem lex_trans : ∀ {x y z : List Int}, HT.lexLt x y = true → HT.lexLt y z = true → HT.lexLt x z = true
  | [], [], _, h, _ => by cases h
  | [], _ :: _, [], _, h => by cases h
  | [], _ :: _, _ :: _, _, _ => rfl
  | _ :: _, [], _, h, _ => by cases h
  | _ :: _, _ :: _, [], _, h => by cases h
  | a :: x, b :: y, c :: z, h1, h2 => by
    rw [HT.lexLt_cons] at h1 h2 ⊢
    by_cases e1 : a = b
    · rw [if_pos e1] at h1
      by_cases e2 : b = c
      · rw [if_pos e2] at h2
        rw [if_pos (e1.trans e2)]
        exact lex_trans h1 h2
      · rw [if_neg e2] at h2
        rw [if_neg (by rw [e1]; exact e2), e1]
        exact h2
    · rw [if_neg e1] at h1
      have l1 : a < b := by simpa using h1
      by_cases e2 : b = c
      · rw [if_neg (by rw [← e2]; exact e1), ← e2]
        exact h1
      · rw [if_neg e2] at h2
        have l2 : b < c := by simpa using h2
        rw [if_neg (by omega)]
        simpa using (show a < c by omega)
theorem lex_total : ∀ x y : List Int, x ≠ y → HT.lexLt x y = true ∨ HT.lexLt y x = true
  | [], [], h => absurd rfl h
  | [], _ :: _, _ => .inl rfl
  | _ :: _, [], _ => .inr rfl
  | a :: x, b :: y, h => by
    rw [HT.lexLt_cons, HT.lexLt_cons]
    by_cases e : a = b
    · rw [if_pos e, if_pos e.symm]
      exact lex_total x y fun z => h (by rw [e, z])
    · rw [if_neg e, if_neg (Ne.symm e)]
      rcases Int.lt_or_gt_of_ne e with q | q
      · exact .inl (by simpa using q)
      · exact .inr (by simpa using q)
/-- how many lie before it -/
def rank (ks : List (List Int)) (i : Nat) : Nat := ks.countP fun k => HT.lexLt k (ks.getD i [])
theorem rank_lt {ks : List (List Int)} {i j : Nat} (hi : i < ks.length) (hj : j < ks.length) (h : HT.lexLt (ks.getD i []) (ks.getD j []) = true) : rank ks i < rank ks j := by
  unfold rank
  have hm : ks.getD i [] ∈ ks := by rw [List.getD_eq_getElem?_getD, List.getElem?_eq_getElem hi]; exact List.getElem_mem hi
  generalize ks.getD i [] = a at *
  generalize ks.getD j [] = b at *
  clear hi hj
  induction ks with
  | nil => cases hm
  | cons k ks ih =>
    have mono : ∀ l : List (List Int), l.countP (fun k => HT.lexLt k a) ≤ l.countP fun k => HT.lexLt k b := fun l => List.countP_mono_left fun x _ hx => lex_trans hx h
    rw [List.countP_cons, List.countP_cons]
    rcases List.mem_cons.mp hm with e | hm
    · rw [← e, lex_irrefl, h]
      have := mono ks
      simp
      omega
    · have := ih hm
      by_cases c : HT.lexLt k a = true
      · rw [c, lex_trans c h]; simp; omega
      · have c' : HT.lexLt k a = false := by simpa using c
        rw [c', if_neg (by decide)]
        omega
theorem rank_iff {ks : List (List Int)} (nd : ks.Nodup) {i j : Nat} (hi : i < ks.length) (hj : j < ks.length) : decide (rank ks i < rank ks j) = HT.lexLt (ks.getD i []) (ks.getD j []) := by
  by_cases e : i = j
  · subst e
    rw [lex_irrefl]
    simp
  · have ne : ks.getD i [] ≠ ks.getD j [] := fun z => by
      rw [List.getD_eq_getElem?_getD, List.getD_eq_getElem?_getD, List.getElem?_eq_getElem hi, List.getElem?_eq_getElem hj] at z
      exact e ((List.getElem_inj nd).mp z)
    rcases lex_total _ _ ne with h | h
    · rw [h]
      exact decide_eq_true (rank_lt hi hj h)
    · have h2 := rank_lt hj hi h
      have : HT.lexLt (ks.getD i []) (ks.getD j []) = false := by
        cases c : HT.lexLt (ks.getD i []) (ks.getD j []) with
        | false => rfl
        | true =>
          have := lex_trans c h
          rw [lex_irrefl] at this
          cases this
      rw [this]
      exact decide_eq_false (by omega)
theorem rank_inj {ks : List (List Int)} (nd : ks.Nodup) (i j : Nat) (hi : i < ks.length) (hj : j < ks.length) (h : rank ks i = rank ks j) : i = j := by
  by_cases e : i = j
  · exact e
  · have ne : ks.getD i [] ≠ ks.getD j [] := fun z => by
      rw [List.getD_eq_getElem?_getD, List.getD_eq_getElem?_getD, List.getElem?_eq_getElem hi, List.getElem?_eq_getElem hj] at z
      exact e ((List.getElem_inj nd).mp z)
    rcases lex_total _ _ ne with q | q
    · have := rank_lt hi hj q; omega
    · have := rank_lt hj hi q; omega

abbrev rf (p : Addr × List Int) : Value := .ref p.1
theorem kat_tups : ∀ ps : List (Addr × List Int), (∀ p ∈ ps, IsTupleKey (intKind prog w) s.heap p.2 p.1) → (∀ p ∈ ps, p.2 ≠ []) → ∃ fs, KatTups s.heap (ps.map rf) fs ∧ fs.length = ps.length ∧ ∀ v ∈ fs, ∃ k t, v = Value.int k t
  | [], _, _ => ⟨[], KatTups.nil, rfl, fun v hv => by cases hv⟩
  | p :: ps, ht, hn => by
    obtain ⟨fs, h1, h2, h3⟩ := kat_tups ps (fun q hq => ht q (List.mem_cons_of_mem _ hq)) fun q hq => hn q (List.mem_cons_of_mem _ hq)
    obtain ⟨o, items, n, ho, hc, hd, hi⟩ := ht p List.mem_cons_self
    have hne := hn p List.mem_cons_self
    obtain ⟨k, r, e⟩ : ∃ k r, p.2 = k :: r := by
      cases c : p.2 with
      | nil => exact absurd c hne
      | cons k r => exact ⟨k, r, rfl⟩
    rw [e] at hi
    obtain ⟨l⟩ := items
    cases hi with
    | @cons _ v _ vs hk hr =>
      obtain ⟨t, rfl⟩ := is_int hk
      refine ⟨.int k t :: fs, KatTups.cons ho hc hd (by simp) h1, by simp [h2], fun v hv => ?_⟩
      rcases List.mem_cons.mp hv with rfl | hv
      · exact ⟨k, t, rfl⟩
      · exact h3 v hv
set_option maxHeartbeats 1000000 in
theorem list_sort_tup {a : Addr} {n : Nat} {ps : List (Addr × List Int)} {P : PySem.Fin → Shared → Prop} (ho : s.heap.get? a = some (seqObj "list" (ps.map rf).toArray n)) (tups : ∀ p ∈ ps, IsTupleKey (intKind prog w) s.heap p.2 p.1) (hne : ∀ p ∈ ps, p.2 ≠ []) (nd : (ps.map (·.2)).Nodup) (h64 : ps.length < 64)
    (h : ∀ (h' : Heap) (ps' : List (Addr × List Int)) (c : Nat), (∀ b o, b ≠ a → s.heap.get? b = some o → h'.get? b = some o) → h'.get? a = some (seqObj "list" (ps'.map rf).toArray c) → ps'.Perm ps → ps'.Pairwise (fun p q => HT.lexLt p.2 q.2 = true) → P (.done (.ret .none)) { s with heap := h' }) :
    wpAny (model prog w) A (Builtin.«list.sort» ⟨[.ref a], []⟩) P E s := by
  have ha : a < s.heap.objs.size := Heap.lt_size ho
  obtain ⟨e1, ho1⟩ : ∃ e1, (s.heap.update a (Obj.mapSeq fun _ => (#[] : Array Value))).get? a = some (seqObj "list" #[] e1) := ⟨_, get?_update_seq ho fun _ => #[]⟩
  have hz : (ps.map rf).length = ps.length := List.length_map _
  rw [list_sort_plain]
  refine wpAny_bind (listItems_at ho rfl ?_)
  refine wpAny_bind (listUpdate_at ho rfl ?_ (by rw [List.size_toArray, hz, sizeLine_eq]; omega) (Nat.zero_le _))
  refine wpAny_bind (seqEpoch_at ho1 rfl ?_)
  refine wpAny_bind (wpAny_newTuple ?_ (by show (ps.map rf).length ≤ _; rw [hz, sizeLine_eq]; omega))
  refine wpAny_bind (wpAny_newList ?_ (Nat.zero_le _))
  refine wpAny_holding ?_
  have keep : ∀ b o, b ≠ a → s.heap.get? b = some o → (((s.heap.update a (Obj.mapSeq fun _ => (#[] : Array Value))).push (seqObj "tuple" (ps.map rf).toArray 0)).push (seqObj "list" #[] 0)).get? b = some o := fun b o hb e => Heap.get?_push_of_some _ (Heap.get?_push_of_some _ ((Heap.get?_update_other _ _ (Ne.symm hb)).trans e))
  have ho2 : (((s.heap.update a (Obj.mapSeq fun _ => (#[] : Array Value))).push (seqObj "tuple" (ps.map rf).toArray 0)).push (seqObj "list" #[] 0)).get? a = some (seqObj "list" #[] e1) := Heap.get?_push_of_some _ (Heap.get?_push_of_some _ ho1)
  have tups' : ∀ p ∈ ps, IsTupleKey (intKind prog w) (((s.heap.update a (Obj.mapSeq fun _ => (#[] : Array Value))).push (seqObj "tuple" (ps.map rf).toArray 0)).push (seqObj "list" #[] 0)) p.2 p.1 := fun p hp => key_at (tups p hp) fun o e => keep _ o (fun z => by
    obtain ⟨o', _, _, ho', hc', _⟩ := tups p hp
    rw [z, ho] at ho'
    cases ho'
    exact absurd hc' (show ¬ (Value.type "list" = Value.type "tuple") by decide)) e
  show wpAny (model prog w) A _ P E { s with heap := ((s.heap.update a (Obj.mapSeq fun _ => (#[] : Array Value))).push (seqObj "tuple" (ps.map rf).toArray 0)).push (seqObj "list" #[] 0) }
  generalize ((s.heap.update a (Obj.mapSeq fun _ => (#[] : Array Value))).push (seqObj "tuple" (ps.map rf).toArray 0)).push (seqObj "list" #[] 0) = h3 at *
  dsimp only
  -- what is left behind the sort proper
  have fin : ∀ (out : List (Addr × List Int)), out.length = ps.length → out.Perm ps → out.Pairwise (fun p q => HT.lexLt p.2 q.2 = true) → P (.done (.ret .none)) { s with heap := h3.update a (Obj.mapSeq fun _ => (out.map rf).toArray) } := fun out _ pm pw => by
    obtain ⟨c2, hc2⟩ : ∃ c2, (h3.update a (Obj.mapSeq fun _ => (out.map rf).toArray)).get? a = some (seqObj "list" (out.map rf).toArray c2) := ⟨_, get?_update_seq ho2 fun _ => (out.map rf).toArray⟩
    exact h _ out c2 (fun b o hb e => (Heap.get?_update_other _ _ (Ne.symm hb)).trans (keep b o hb e)) hc2 pm pw
  by_cases h2 : (ps.map rf).toArray.size < 2
  · rw [if_pos h2, if_pos h2]
    refine wpAny_bind (wpAny_pure ?_)
    rw [StateT.run_pure]
    refine wpAny_bind (wpAny_pure ?_)
    dsimp only
    have arr : (arrOf (SortSt.mk' general' ((ps.map rf).toArray.zip (ps.map rf).toArray) #[] 7 none)).map (·.2) = (ps.map rf).toArray := by
      show ((ps.map rf).toArray.zip (ps.map rf).toArray).map (·.2) = _
      apply Array.toList_inj.mp
      simp only [Array.toList_map, Array.toList_zip]
      exact List.map_snd_zip (Nat.le_refl _)
    rw [arr]
    refine wpAny_bind (seqEpoch_at ho2 rfl ?_)
    refine wpAny_bind (listUpdate_at ho2 rfl ?_ (Nat.zero_le _) (by show (ps.map rf).toArray.size ≤ _; omega))
    simp only [bne_self_eq_false, Bool.false_eq_true, if_false]
    refine wpAny_pure (fin ps rfl (List.Perm.refl _) ?_)
    have hl : ps.length < 2 := by simpa using h2
    match ps, hl with
    | [], _ => exact List.Pairwise.nil
    | [p], _ => exact List.pairwise_singleton _ _
  · rw [if_neg h2, if_neg h2]
    have hl : 2 ≤ ps.length := by simpa using h2
    obtain ⟨fs, ft, fl, fi⟩ := kat_tups (prog := prog) (w := w) (s := { s with heap := h3 }) ps tups' hne
    refine wpAny_bind (kat_kind (T := .type "int") ft (by omega) (fun v hv => ?_) (by decide) ?_)
    · obtain ⟨k, t, rfl⟩ := fi v hv
      exact Looks.now
    have cmp : ∀ i j (C : Bool → Shared → Prop), i < ps.length → j < ps.length → C (decide (rank (ps.map (·.2)) i < rank (ps.map (·.2)) j)) { s with heap := h3 } → kas_ask prog w A (tuples' ((Value.type "int") != Value.type "tuple")) (ps.map rf) i j C { s with heap := h3 } := fun i j C hi hj hC => by
      rw [rank_iff nd (by simpa using hi) (by simpa using hj)] at hC
      unfold kas_ask
      have g : ∀ i (hi : i < ps.length), (ps.map rf).getD i Value.none = .ref ps[i].1 ∧ (ps.map (·.2)).getD i [] = ps[i].2 := fun i hi => by simp [hi]
      rw [(g i hi).1, (g j hj).1]
      rw [(g i hi).2, (g j hj).2] at hC
      exact lt_tup (tups' _ (List.getElem_mem hi)) (tups' _ (List.getElem_mem hj)) hC
    obtain ⟨p, ep, psz, pup, ppm⟩ := run_sort (r := rank (ps.map (·.2))) (n := ps.length) (by omega) fun i j hi hj => rank_inj nd i j (by simpa using hi) (by simpa using hj)
    have ask : (kas_sort (ps.map rf).length).kasWp (kas_ask prog w A (tuples' ((Value.type "int") != Value.type "tuple")) (ps.map rf)) (fun q s' => q = p ∧ s' = { s with heap := h3 }) { s with heap := h3 } := by
      rw [hz]
      exact wp_run' (r := rank (ps.map (·.2))) cmp _ (ga_sort (by omega)) ⟨ep, rfl⟩
    refine wpAny_bind (wpAny_mono (kat_run (Q := fun st' s' => arrOf st' = p.map (kas_item ((ps.map rf).toArray.zip (ps.map rf).toArray)) ∧ failedOf st' = none ∧ s' = { s with heap := h3 }) rfl (by omega) (by omega) (fun q st' s' a1 a2 a3 a4 => ⟨by rw [a2, a4.1], a3, a4.2⟩) ask) ?_ fun _ _ e => e)
    rintro ⟨⟨⟩, st'⟩ s' ⟨har, hf, rfl⟩
    dsimp only
    have hout := kat_snds (vs := ps.map rf) rfl har
    -- the order as entries
    have plt : ∀ i ∈ p.toList, i < ps.length := fun i hi => by
      have := ppm.mem_iff.mp (Array.mem_toList_iff.mp hi)
      simpa using this
    have outm : (p.toList.map fun i => (ps.map rf).getD i Value.none) = (picked ps p.toList).map rf := (picked_map rf ps Value.none p.toList plt).symm
    rw [hout, outm]
    have pl : (picked ps p.toList).length = ps.length := by
      have := congrArg List.length (picked_map (fun p => p) ps (default : Addr × List Int) p.toList plt)
      simpa [psz] using this
    refine wpAny_bind (seqEpoch_at (s := { s with heap := h3 }) ho2 rfl ?_)
    refine wpAny_bind (listUpdate_at (s := { s with heap := h3 }) ho2 rfl ?_ (Nat.zero_le _) (by show ((picked ps p.toList).map rf).toArray.size ≤ _; simp [pl, sizeLine_eq]; omega))
    rw [hf]
    simp only [bne_self_eq_false, Bool.false_eq_true, if_false]
    refine wpAny_pure (fin (picked ps p.toList) pl ?_ ?_)
    · have e2 : picked ps (List.range ps.length) = ps := by
        have := picked_map (fun p => p) ps (default : Addr × List Int) (List.range ps.length) fun q hq => List.mem_range.mp hq
        rw [List.map_id'] at this
        rw [this]
        refine List.ext_getElem (by simp) fun i h1 h2 => ?_
        simp [h2]
      have pm : p.toList.Perm (List.range ps.length) := by simpa using ppm.toList
      have := pm.filterMap fun q : Nat => ps[q]?
      show (picked ps p.toList).Perm ps
      rw [← e2]
      conv => lhs; rw [e2]
      exact this
    · have e3 := picked_map (fun p => p) ps (default : Addr × List Int) p.toList plt
      rw [List.map_id'] at e3
      rw [e3, List.pairwise_map, List.pairwise_iff_getElem]
      intro i j hi hj hij
      have hi' : i < p.size := by simpa using hi
      have hj' : j < p.size := by simpa using hj
      have lt := pup.lt' hij (show j < ps.length by omega)
      have gi : p.getD i 0 = p.toList[i] := by simp [Array.getD, hi']
      have gj : p.getD j 0 = p.toList[j] := by simp [Array.getD, hj']
      rw [gi, gj] at lt
      have l1 := plt _ (List.getElem_mem hi)
      have l2 := plt _ (List.getElem_mem hj)
      have := rank_iff nd (i := p.toList[i]) (j := p.toList[j]) (by simpa using l1) (by simpa using l2)
      rw [decide_eq_true lt] at this
      have g : ∀ q (hq : q < ps.length), ((ps.map fun p => p).getD q (default : Addr × List Int)).2 = (ps.map (·.2)).getD q [] := fun q hq => by simp [hq]
      rw [g _ l1, g _ l2]
      exact this.symm
end
end TB

namespace TB
open PySem PySem.Spec PySem.W PyProof.Rows
section
variable {prog : Program} {w : World} {A : Around} {E : Value → Shared → Prop} {s : Shared}
end
end TB


namespace L2
open PySem PySem.Spec PyProof.Rows

def clFrom (cells : List (Str × Addr)) : List (Str × NameKind) → List (Str × Addr) → List (Str × Addr)
  | [], acc => acc
  | (n, k) :: r, acc => if (k == NameKind.free) = true then clFrom cells r ((n, (cells.lookup n).getD 0) :: acc) else clFrom cells r acc

theorem clFrom_mem {cells : List (Str × Addr)} {x : Str} {c : Addr} : ∀ {names : List (Str × NameKind)} {acc : List (Str × Addr)}, (x, c) ∈ clFrom cells names acc → (x, c) ∈ acc ∨ ((x, NameKind.free) ∈ names ∧ c = (cells.lookup x).getD 0)
  | [], _, h => .inl h
  | (n, k) :: r, acc, h => by
    unfold clFrom at h
    by_cases hk : (k == NameKind.free) = true
    · rw [if_pos hk] at h
      have ek : k = NameKind.free := by simpa using hk
      subst ek
      rcases clFrom_mem h with q | ⟨q1, q2⟩
      · rcases List.mem_cons.mp q with e | q
        · cases e; exact .inr ⟨List.mem_cons_self, rfl⟩
        · exact .inl q
      · exact .inr ⟨List.mem_cons_of_mem _ q1, q2⟩
    · rw [if_neg hk] at h
      rcases clFrom_mem h with q | ⟨q1, q2⟩
      · exact .inl q
      · exact .inr ⟨List.mem_cons_of_mem _ q1, q2⟩

theorem clFrom_has {cells : List (Str × Addr)} {x : Str} : ∀ {names : List (Str × NameKind)} {acc : List (Str × Addr)}, ((x, NameKind.free) ∈ names ∨ (acc.lookup x).isSome = true) → ((clFrom cells names acc).lookup x).isSome = true
  | [], _, h => by
    rcases h with h | h
    · exact absurd h (by simp)
    · exact h
  | (n, k) :: r, acc, h => by
    unfold clFrom
    by_cases hk : (k == NameKind.free) = true
    · rw [if_pos hk]
      refine clFrom_has ?_
      rcases h with h | h
      · rcases List.mem_cons.mp h with e | h
        · cases e
          exact .inr (by rw [List.lookup_cons, beq_self_eq_true]; rfl)
        · exact .inl h
      · refine .inr ?_
        rw [List.lookup_cons]
        cases hb : x == n with
        | true => rfl
        | false => exact h
    · rw [if_neg hk]
      refine clFrom_has ?_
      rcases h with h | h
      · rcases List.mem_cons.mp h with e | h
        · cases e; exact absurd rfl hk
        · exact .inl h
      · exact .inr h

theorem closure_go {env : Env} (f : Str × NameKind → List (Str × Addr) → Sem (ForInStep (List (Str × Addr))))
    (hf : ∀ n k cs, f (n, k) cs = if (k == NameKind.free) = true then (do let a ← cellOf env n; pure (ForInStep.yield ((n, a) :: cs))) else pure (ForInStep.yield cs)) :
    ∀ (names : List (Str × NameKind)) (acc : List (Str × Addr)), (∀ x ∈ names, x.2 = NameKind.free → ∃ c, env.cells.lookup x.1 = some c) → forIn names acc f = (pure (clFrom env.cells names acc) : Sem (List (Str × Addr)))
  | [], acc, _ => by rw [List.forIn_nil]; rfl
  | (n, k) :: r, acc, h => by
    rw [List.forIn_cons, hf]
    unfold clFrom
    have hr : ∀ x ∈ r, x.2 = NameKind.free → ∃ c, env.cells.lookup x.1 = some c := fun x hx => h x (List.mem_cons_of_mem _ hx)
    by_cases hk : (k == NameKind.free) = true
    · rw [if_pos hk, if_pos hk]
      have ek : k = NameKind.free := by simpa using hk
      obtain ⟨c, hc⟩ := h (n, k) List.mem_cons_self ek
      have hc' : env.cells.lookup n = some c := hc
      have e1 : cellOf env n = pure c := by unfold cellOf; rw [hc']
      rw [e1, hc']
      exact closure_go f hf r _ hr
    · rw [if_neg hk, if_neg hk]
      exact closure_go f hf r _ hr

theorem closure_eq {env : Env} {scope : Scope} (h : ∀ x ∈ scope.names, x.2 = NameKind.free → ∃ c, env.cells.lookup x.1 = some c) : closureFor scope env = pure (clFrom env.cells scope.names []) := by
  unfold closureFor
  dsimp only
  rw [closure_go (env := env) _ ?_ scope.names [] h]
  · rfl
  · intro n k cs
    by_cases hk : (k == NameKind.free) = true
    · simp only [hk, if_true]
    · simp only [hk, if_false]

theorem cellsFrom_mem {x : Str} {c : Addr} : ∀ {names : List (Str × NameKind)} {n : Nat} {acc : List (Str × Addr)}, (x, c) ∈ cellsFrom n names acc → (x, c) ∈ acc ∨ (n ≤ c ∧ (x, NameKind.cell) ∈ names)
  | [], _, _, h => .inl h
  | (y, k) :: r, n, acc, h => by
    unfold cellsFrom at h
    by_cases hk : (k == NameKind.cell) = true
    · rw [if_pos hk] at h
      have ek : k = NameKind.cell := by simpa using hk
      subst ek
      rcases cellsFrom_mem h with q | ⟨q1, q2⟩
      · rcases List.mem_cons.mp q with e | q
        · cases e; exact .inr ⟨Nat.le_refl _, List.mem_cons_self⟩
        · exact .inl q
      · exact .inr ⟨Nat.le_of_succ_le q1, List.mem_cons_of_mem _ q2⟩
    · rw [if_neg hk] at h
      rcases cellsFrom_mem h with q | ⟨q1, q2⟩
      · exact .inl q
      · exact .inr ⟨q1, List.mem_cons_of_mem _ q2⟩
theorem cellsFrom_inj {x y : Str} {c : Addr} : ∀ {names : List (Str × NameKind)} {n : Nat} {acc : List (Str × Addr)}, (∀ p ∈ acc, p.2 < n) → (x, c) ∈ cellsFrom n names acc → (y, c) ∈ cellsFrom n names acc → ((x, c) ∈ acc ∧ (y, c) ∈ acc) ∨ x = y
  | [], _, _, _, h, h' => .inl ⟨h, h'⟩
  | (z, k) :: r, n, acc, hl, h, h' => by
    unfold cellsFrom at h h'
    by_cases hk : (k == NameKind.cell) = true
    · rw [if_pos hk] at h h'
      have hl' : ∀ p ∈ (z, n) :: acc, p.2 < n + 1 := fun p hp => by
        rcases List.mem_cons.mp hp with e | hp
        · subst e; exact Nat.lt_succ_self _
        · exact Nat.lt_succ_of_lt (hl p hp)
      rcases cellsFrom_inj hl' h h' with ⟨a, b⟩ | e
      · rcases List.mem_cons.mp a with e | a
        · obtain ⟨e1, e2⟩ := Prod.mk.inj e
          rcases List.mem_cons.mp b with e' | b
          · exact .inr (e1.trans (Prod.mk.inj e').1.symm)
          · rw [e2] at b
            exact absurd (show n < n from hl _ b) (Nat.lt_irrefl n)
        · rcases List.mem_cons.mp b with e' | b
          · rw [(Prod.mk.inj e').2] at a
            exact absurd (show n < n from hl _ a) (Nat.lt_irrefl n)
          · exact .inl ⟨a, b⟩
      · exact .inr e
    · rw [if_neg hk] at h h'
      exact cellsFrom_inj hl h h'
theorem pushCells_cell {x : Str} {c : Addr} : ∀ {names : List (Str × NameKind)} {h : Heap} {acc : List (Str × Addr)}, (x, c) ∈ cellsFrom h.objs.size names acc → (x, c) ∈ acc ∨ (pushCells h names).IsCell c none
  | [], _, _, q => .inl q
  | (y, k) :: r, h, acc, q => by
    unfold cellsFrom at q
    unfold pushCells
    by_cases hk : (k == NameKind.cell) = true
    · rw [if_pos hk] at q ⊢
      have q' : (x, c) ∈ cellsFrom (h.push { cls := .type "cell", data := .cell none }).objs.size r ((y, h.objs.size) :: acc) := by rw [Heap.size_push]; exact q
      rcases pushCells_cell q' with z | z
      · rcases List.mem_cons.mp z with e | z
        · cases e
          exact .inr ⟨_, pushCells_keeps r _ _ _ (Heap.get?_push_size _ rfl), rfl⟩
        · exact .inl z
      · exact .inr z
    · rw [if_neg hk] at q ⊢
      exact pushCells_cell q

theorem newEnv_comp {M : Model} {A : Around} {E : Value → Shared → Prop} {s : Shared} {scope : Scope} {globals : Addr} {cl : List (Str × Addr)} {qual : Str} {env : Env} {Q : Env → Shared → Prop}
    (h : Q { scope := scope, locals := s.heap.objs.size, globals := globals, cells := cellsFrom (s.heap.objs.size + 1) scope.names cl, qual := qual, func := none, code := env.code, frame := env.frame, builtins := env.builtins }
      { s with heap := pushCells (s.heap.push { cls := .type "dict", data := .dict #[] }) scope.names }) :
    wpAny M A (newFunctionEnv scope globals cl [] qual none .none (some env)) Q E s := by
  unfold newFunctionEnv
  refine wpAny_bind (wpAny_alloc ?_)
  refine wpAny_bind (wpAny_layCells _ ?_ scope.names cl _ _ ?_)
  · intro name kind cells
    by_cases hk : (kind == NameKind.cell) = true
    · simp only [hk, if_true]
    · simp only [hk, if_false]
  · have e : (s.heap.push { cls := .type "dict", data := .dict #[] }).objs.size = s.heap.objs.size + 1 := Heap.size_push ..
    rw [← e] at h
    exact wpAny_pure h

theorem lookup_relabel {env : Env} {x : Str} {k' : NameKind} : ∀ {names : List (Str × NameKind)}, (names.map fun (n, k) => if (k == NameKind.free && env.scope.kind == .function && env.kindOf n == some .cell) then (n, NameKind.cell) else (n, k)).lookup x = some k' →
    ∃ k, names.lookup x = some k ∧ (k' = k ∨ (k = .free ∧ k' = .cell))
  | [], h => by simp at h
  | (n, k) :: r, h => by
    by_cases hc : (k == NameKind.free && env.scope.kind == .function && env.kindOf n == some .cell) = true
    · simp only [List.map_cons, hc, if_true, List.lookup_cons] at h ⊢
      cases hx : x == n with
      | true =>
        rw [hx] at h
        have ek : k = NameKind.free := by
          have := hc
          simp only [Bool.and_eq_true] at this
          simpa using this.1.1
        exact ⟨k, rfl, .inr ⟨ek, (Option.some.inj h).symm⟩⟩
      | false =>
        rw [hx] at h
        exact lookup_relabel h
    · have hc' : (k == NameKind.free && env.scope.kind == .function && env.kindOf n == some .cell) = false := by simpa using hc
      simp only [List.map_cons, hc', Bool.false_eq_true, if_false, List.lookup_cons] at h ⊢
      cases hx : x == n with
      | true => rw [hx] at h; exact ⟨k, rfl, .inl (Option.some.inj h).symm⟩
      | false =>
        rw [hx] at h
        exact lookup_relabel h
theorem lookup_relabel_of {env : Env} {x : Str} {k : NameKind} : ∀ {names : List (Str × NameKind)}, names.lookup x = some k →
    ∃ k', (names.map fun (n, k) => if (k == NameKind.free && env.scope.kind == .function && env.kindOf n == some .cell) then (n, NameKind.cell) else (n, k)).lookup x = some k' ∧ (k' = k ∨ (k = .free ∧ k' = .cell))
  | [], h => by simp at h
  | (n, k₀) :: r, h => by
    by_cases hc : (k₀ == NameKind.free && env.scope.kind == .function && env.kindOf n == some .cell) = true
    · simp only [List.map_cons, hc, if_true, List.lookup_cons] at h ⊢
      cases hx : x == n with
      | true =>
        rw [hx] at h
        have ek : k₀ = NameKind.free := by
          have := hc
          simp only [Bool.and_eq_true] at this
          simpa using this.1.1
        have e2 : k₀ = k := Option.some.inj h
        exact ⟨_, rfl, .inr ⟨e2 ▸ ek, rfl⟩⟩
      | false =>
        rw [hx] at h
        exact lookup_relabel_of h
    · have hc' : (k₀ == NameKind.free && env.scope.kind == .function && env.kindOf n == some .cell) = false := by simpa using hc
      simp only [List.map_cons, hc', Bool.false_eq_true, if_false, List.lookup_cons] at h ⊢
      cases hx : x == n with
      | true => rw [hx] at h; exact ⟨k₀, rfl, .inl (Option.some.inj h)⟩
      | false =>
        rw [hx] at h
        exact lookup_relabel_of h

def compEnv (sc : Scope) (C : Addr) (env : Env) : Env :=
  { scope := relabel sc env, locals := C, globals := env.globals, cells := cellsFrom (C + 1) sc.names (clFrom env.cells sc.names []), qual := env.qual, func := none, code := env.code, frame := env.frame, builtins := env.builtins }
def cxComp (X : Cx) (N' : List Str) (sc : Scope) (C : Addr) (s₀ : Shared) (H₀ : Hp) (ex : List Addr) : Cx where
  prog := X.prog
  w := X.w
  K := X.K
  mg := X.mg
  base := X.base
  A := X.A
  N := N'
  s₀ := s₀
  H₀ := H₀
  env := compEnv sc C X.env
  outer := X.stack
  stack := X.stack
  ex := ex
  fn := fun x => decide (sc.names.lookup x = some .cell)
  calm := X.calm
  pn := []
  xe := fun _ _ => False

/-- the block's names at its entry: by the outer names' places -/
def capt (ix : List (Option Nat)) (σ : St) : St := ix.map fun o => o.bind fun j => (σ[j]?).join

/-- what a block's scope must be: N' its names, ix the outer place of each free one -/
structure CompScope (X : Cx) (N' : List Str) (ix : List (Option Nat)) (sc : Scope) : Prop where
  kind : sc.kind = .function
  nd : N'.Nodup
  uniq : (sc.names.map (·.1)).Nodup
  len : ix.length = N'.length
  free : ∀ x ∈ sc.names, x.2 = .free → X.env.kindOf x.1 = some .cell ∨ X.env.kindOf x.1 = some .free
  at_ : ∀ (i j : Nat), ix[i]? = some (some j) → ∃ x, N'[i]? = some x ∧ X.N[j]? = some x ∧ sc.names.lookup x = some .free

theorem nodup_lookup {α : Type} {x : Str} {a : α} : ∀ {l : List (Str × α)}, (l.map (·.1)).Nodup → (x, a) ∈ l → l.lookup x = some a
  | (k, v) :: r, nd, h => by
    rw [List.map_cons, List.nodup_cons] at nd
    rw [List.lookup_cons]
    rcases List.mem_cons.mp h with e | h
    · cases e; rw [beq_self_eq_true]
    · have : (x == k) = false := by
        cases q : x == k with
        | false => rfl
        | true =>
          have e : x = k := by simpa using q
          exact absurd (List.mem_map.mpr ⟨_, h, e⟩) nd.1
      rw [this]
      exact nodup_lookup nd.2 h

section
variable {X : Cx} {pins : List (Addr × Obj)} {σ : St} {H : Hp} {s : Shared} {N' : List Str} {ix : List (Option Nat)} {sc : Scope} {ex : List Addr}

/-- a cell that the block sees: an outer one or a new one -/
theorem cells_of (S : CompScope X N' ix sc) {C : Addr} {x : Str} {c : Addr} (h : (compEnv sc C X.env).cells.lookup x = some c) (ok : X.Ok) :
    (X.env.cells.lookup x = some c ∧ sc.names.lookup x = some .free) ∨ (C + 1 ≤ c ∧ sc.names.lookup x = some .cell) := by
  rcases cellsFrom_mem (mem_of_lookup h) with q | ⟨q1, q2⟩
  · rcases clFrom_mem q with q | ⟨q1, q2⟩
    · exact absurd q (by simp)
    · obtain ⟨c', hc⟩ := ok.has x (S.free _ q1 rfl)
      rw [hc] at q2
      exact .inl ⟨by rw [hc, q2]; rfl, nodup_lookup S.uniq q1⟩
  · exact .inr ⟨q1, nodup_lookup S.uniq q2⟩

theorem comp_look (S : CompScope X N' ix sc) (I : Inv X pins σ H s) (C : Addr) {i : Nat} {x : Str} {v : V} (h1 : N'[i]? = some x) (h2 : (capt ix σ)[i]? = some (some v)) :
    ∃ u c, RelV v u ∧ ((compEnv sc C X.env).kindOf x = some .cell ∨ (compEnv sc C X.env).kindOf x = some .free) ∧ (compEnv sc C X.env).cells.lookup x = some c ∧ X.env.cells.lookup x = some c ∧ s.heap.IsCell c (some u) := by
  have h2' : (ix.map fun o => o.bind fun j => (σ[j]?).join)[i]? = some (some v) := h2
  rw [List.getElem?_map] at h2'
  cases e : ix[i]? with
  | none => rw [e] at h2'; cases h2'
  | some o =>
    rw [e] at h2'
    cases o with
    | none => cases h2'
    | some j =>
      have h4 : (σ[j]?).join = some v := Option.some.inj h2'
      have h5 : σ[j]? = some (some v) := by
        cases q : σ[j]? with
        | none => rw [q] at h4; cases h4
        | some o => rw [q] at h4; exact congrArg some h4
      obtain ⟨x', n1, n2, n3⟩ := S.at_ i j e
      rw [n1] at h1
      cases h1
      have kx := S.free _ (mem_of_lookup n3) rfl
      obtain ⟨m, hn, hl⟩ := I.loc
      have vis : Vis X.env.scope x := by
        rcases kx with k | k
        · exact .inr (.inl k)
        · exact .inr (.inr k)
      obtain ⟨u, r, l⟩ := hl j x v n2 h5 vis
      rcases l with ⟨k, _⟩ | ⟨k, c, hc, z⟩
      · rcases kx with k' | k' <;> (rw [k] at k'; cases k')
      · obtain ⟨k', q, z'⟩ := lookup_relabel_of (env := X.env) (names := sc.names) n3
        have : ((cellsFrom (C + 1) sc.names (clFrom X.env.cells sc.names [])).lookup x).isSome = true := PySem.W.cellsFrom_some _ _ _ (.inr (clFrom_has (.inl (mem_of_lookup n3))))
        obtain ⟨c', hc'⟩ := Option.isSome_iff_exists.mp this
        have ec : c = c' := by
          rcases cells_of S (C := C) hc' I.ok with ⟨q1, _⟩ | ⟨_, q2⟩
          · rw [hc] at q1; exact Option.some.inj q1
          · rw [n3] at q2; cases q2
        subst ec
        refine ⟨u, c, r, ?_, hc', hc, z⟩
        show (relabel sc X.env).names.lookup x = some .cell ∨ (relabel sc X.env).names.lookup x = some .free
        rcases z' with z' | ⟨_, z'⟩
        · exact .inr (z' ▸ q)
        · exact .inl (z' ▸ q)

theorem comp_start (S : CompScope X N' ix sc) (I : Inv X pins σ H s) (hf : ∀ b ∈ ex, FpOk X pins H b) (he : ∀ b ∈ ex, ∃ o, s.heap.get? b = some o) :
    Inv (cxComp X N' sc s.heap.objs.size s H ex) [] (capt ix σ) H { s with heap := pushCells (s.heap.push { cls := .type "dict", data := .dict #[] }) sc.names } := by
  have keep : ∀ b o, s.heap.get? b = some o → (pushCells (s.heap.push { cls := .type "dict", data := .dict #[] }) sc.names).get? b = some o := fun b o e => pushCells_keeps _ _ _ _ (Heap.get?_push_of_some _ e)
  have ltC : ∀ x c, X.env.cells.lookup x = some c → c < s.heap.objs.size := fun x c e => by obtain ⟨v, q⟩ := I.cell x c e; exact q.lt
  have ltE : ∀ b ∈ ex, b < s.heap.objs.size := fun b hb => by obtain ⟨o, e⟩ := he b hb; exact Heap.lt_size e
  have ok : (cxComp X N' sc s.heap.objs.size s H ex).Ok := by
    refine ⟨I.ok.mod, S.kind, I.ok.glob, I.ok.blt, Nat.le_refl _, fun x y c h1 h2 => ?_, fun x hx => ?_, fun x c hx hc => ?_, I.ok.hd, I.ok.frames, .inl rfl, fun b hb => ⟨Nat.ne_of_lt (ltE b hb), fun x c h z => ?_⟩, I.bs, Nat.le_trans I.ok.bsz I.sz, fun b o e hb => ?_, fun b hb hm => ?_, I.stack, I.stkFree⟩
    · have l : ∀ p ∈ clFrom X.env.cells sc.names [], p.2 < s.heap.objs.size + 1 := fun p hp => by
        obtain ⟨px, pc⟩ := p
        rcases clFrom_mem hp with q | ⟨q1, q2⟩
        · exact absurd q (by simp)
        · obtain ⟨c', hc⟩ := I.ok.has px (S.free _ q1 rfl)
          rw [hc] at q2
          have := ltC _ _ hc
          show pc < _
          rw [q2]
          exact Nat.lt_succ_of_lt this
      rcases cellsFrom_inj l (mem_of_lookup h1) (mem_of_lookup h2) with ⟨a, b⟩ | e
      · rcases cells_of S h1 I.ok with ⟨q, _⟩ | ⟨q, _⟩
        · rcases cells_of S h2 I.ok with ⟨q', _⟩ | ⟨q', _⟩
          · exact I.ok.inj _ _ _ q q'
          · exact absurd (Nat.lt_of_lt_of_le (ltC _ _ q) (Nat.le_of_succ_le q')) (Nat.lt_irrefl _)
        · exact absurd (l _ a) (Nat.not_lt.mpr q)
      · exact e
    · have hx' : (relabel sc X.env).names.lookup x = some .cell ∨ (relabel sc X.env).names.lookup x = some .free := hx
      have : sc.names.lookup x = some .cell ∨ sc.names.lookup x = some .free := by
        rcases hx' with q | q
        · obtain ⟨k, e, z⟩ := lookup_relabel (names := sc.names) q
          rcases z with z | ⟨z, _⟩
          · exact .inl (z ▸ e)
          · exact .inr (z ▸ e)
        · obtain ⟨k, e, z⟩ := lookup_relabel (names := sc.names) q
          rcases z with z | ⟨_, z⟩
          · exact .inr (z ▸ e)
          · cases z
      refine Option.isSome_iff_exists.mp ?_
      show ((cellsFrom (s.heap.objs.size + 1) sc.names (clFrom X.env.cells sc.names [])).lookup x).isSome = true
      rcases this with q | q
      · exact PySem.W.cellsFrom_some _ _ _ (.inl q)
      · exact PySem.W.cellsFrom_some _ _ _ (.inr (clFrom_has (.inl (mem_of_lookup q))))
    · have hx' : sc.names.lookup x = some .cell := of_decide_eq_true hx
      rcases cells_of S hc I.ok with ⟨_, q⟩ | ⟨q, _⟩
      · rw [hx'] at q; cases q
      · exact Nat.le_of_succ_le q
    · rcases cells_of S h I.ok with ⟨q, _⟩ | ⟨q, _⟩
      · exact (hf b hb).2.2.2.2.1 x c q z
      · exact absurd (Nat.lt_of_lt_of_le (ltE b hb) (Nat.le_of_succ_le (z ▸ q))) (Nat.lt_irrefl _)
    · rcases (hf b hb).2.2.2.1 with z | z
      · exact I.ok.noex b o e z
      · exact absurd (Nat.lt_of_lt_of_le (Heap.lt_size e) (Nat.le_trans I.ok.bsz z)) (Nat.lt_irrefl _)
    · rcases List.mem_cons.mp (I.stkSub b hm) with z | z
      · exact (hf b hb).2.1 z
      · exact (hf b hb).2.2.1 z
  refine ⟨ok, rfl, I.bare, Un.kept keep, ⟨fun _ => none, ?_, fun i x v h1 h2 h3 => ?_⟩, fun x c h => ?_, I.hok.fresh (Nat.le_refl _), fun x c h => ?_, fun p hp => absurd (show p ∈ ([] : List (Addr × Obj)) from hp) (by simp), I.hok.kept keep, ?_⟩
  · exact (Heap.Ns.new s.heap (.type "dict")).keeps fun b o e => pushCells_keeps _ _ _ _ e
  · obtain ⟨u, c, r, k, hc, _, z⟩ := comp_look S I s.heap.objs.size h1 h2
    exact ⟨u, r, .inr ⟨k, c, hc, z.keeps keep⟩⟩
  · rcases cells_of S h I.ok with ⟨q, _⟩ | ⟨q, _⟩
    · obtain ⟨v, z⟩ := I.cell x c q
      exact ⟨v, z.keeps keep⟩
    · have h' : (x, c) ∈ cellsFrom (s.heap.push { cls := .type "dict", data := .dict #[] }).objs.size sc.names (clFrom X.env.cells sc.names []) := by rw [Heap.size_push]; exact mem_of_lookup h
      rcases pushCells_cell h' with z | z
      · rcases clFrom_mem z with z | ⟨z1, z2⟩
        · exact absurd z (by simp)
        · obtain ⟨c', hc⟩ := I.ok.has x (S.free _ z1 rfl)
          rw [hc] at z2
          have := ltC _ _ hc
          rw [show c = c' from z2] at q
          exact absurd (Nat.lt_of_lt_of_le this (Nat.le_of_succ_le q)) (Nat.lt_irrefl _)
      · exact ⟨none, z⟩
  · rcases cells_of S h I.ok with ⟨q, _⟩ | ⟨q, _⟩
    · exact I.freeC x c q
    · exact I.hok.fresh (Nat.le_of_succ_le q)
  · show (ix.map _).length = N'.length
    rw [List.length_map]; exact S.len

/-- the target's names are forgotten, the free ones hold what they held -/
theorem comp_back {H' : Hp} {s' : Shared} {σ' : St} {ps : List (Addr × Obj)} (S : CompScope X N' ix sc) (I : Inv X pins σ H s) (hf : ∀ b ∈ ex, FpOk X pins H b)
    (J : Inv (cxComp X N' sc s.heap.objs.size s H ex) ps σ' H' s') : Inv (cxComp X N' sc s.heap.objs.size s H ex) [] (capt ix σ) H' s' := by
  obtain ⟨m, hn, _⟩ := J.loc
  refine ⟨J.ok, J.os, J.bare, J.base, ⟨m, hn, fun i x v h1 h2 h3 => ?_⟩, J.cell, J.free, J.freeC, fun p hp => absurd (show p ∈ ([] : List (Addr × Obj)) from hp) (by simp), J.hok, ?_⟩
  · obtain ⟨u, c, r, k, hc, hx, ⟨o, ho, hd⟩⟩ := comp_look S I s.heap.objs.size h1 h2
    have u1 : Un (frs X.stack) ex H H' s.heap s'.heap := J.base
    obtain ⟨sl, q⟩ := u1.any ho (I.freeC x c hx) fun z => (hf c z).2.2.2.2.1 x c hx rfl
    exact ⟨u, r, .inr ⟨k, c, hc, _, q, hd⟩⟩
  · show (ix.map _).length = N'.length
    rw [List.length_map]; exact S.len

/-- the block is left: the outer state again -/
theorem comp_leave {H' : Hp} {s' : Shared} {h' : Heap} {σ' : St} {ps : List (Addr × Obj)} (I : Inv X pins σ H s) (hf : ∀ b ∈ ex, FpOk X pins H b)
    (J : Inv (cxComp X N' sc s.heap.objs.size s H ex) ps σ' H' s') (hs : Heap.SameBut s.heap.objs.size s'.heap h') : Inv X pins σ H' { s' with heap := h' } := by
  have u : Un (frs X.stack) ex H H' s.heap s'.heap := J.base
  have ne : ∀ b o, s.heap.get? b = some o → b ≠ s.heap.objs.size := fun b o e => Nat.ne_of_lt (Heap.lt_size e)
  have g : ∀ b, b ≠ s.heap.objs.size → h'.get? b = s'.heap.get? b := fun b hb => hs.2 b hb
  have hC : H' s.heap.objs.size = none := J.free
  refine I.call' (s' := { s' with heap := h' }) (ch := ex) J.os ⟨fun b o e n hb hx => ?_, fun b o e n hb hx => ?_, u.free, fun b o e hx => ?_, u.tups, u.frzs, u.tbls⟩ (fun b o e => ?_) J.bare fun b hb => ?_
  · exact (g b (ne b o e)).trans (u.keep b o e n hb hx)
  · obtain ⟨sl, q⟩ := u.slot b o e n hb hx
    exact ⟨sl, (g b (ne b o e)).trans q⟩
  · obtain ⟨o', q⟩ := u.there b o e hx
    exact ⟨o', (g b (ne b o e)).trans q⟩
  · refine (J.hok b o e).stay (fun c v hc q => (g c ?_).trans q) (fun _ q => q) fun _ _ q => q
    rintro rfl
    rcases hc with z | z
    · rw [← z, hC] at e; cases e
    · rw [hC] at z; cases z
  · obtain ⟨f0, f1, f2, f3, f4, f5⟩ := hf b hb
    exact ⟨f3, f1, f4, f5⟩
end

def PF (X : Cx) (ifs : List Expr) (t : TT) : Prop :=
  ∀ (pins : List (Addr × Obj)) (s : Shared) (σ : St) (H : Hp) (Q : Bool → Hp → Prop), Inv X pins σ H s → t σ H Q →
    wpAny (model X.prog X.w) X.A (forIn ifs true fun c r => if r = true then do let ok ← isTrue c X.env (eval c X.env); pure (ForInStep.yield ok) else pure (ForInStep.yield r)) (TP X pins σ Q) X.xe s
def tYes : TT := fun _ H Q => Q true H
theorem pf_nil {X : Cx} : PF X [] tYes := fun _ _ _ H _ I h => wpAny_tests_nil ⟨H, I, h⟩
theorem pf_one {X : Cx} {c : Expr} {t : TT} (h : PT X c t) : PF X [c] t := fun pins s σ H Q I hw => wpAny_tests_one (h pins s σ H Q I hw)

theorem compLoop_any {prog : Program} {w : World} {A : Around} {R : Result → Shared → Prop} {s : Shared} {elt target iter : Expr} {ifs : List Expr} {scope : Scope} {pos : Pos} {it acc : Value} {env : Env} (I : Nat → Shared → Prop)
    (turn : ∀ n s, I n s → wpAny (model prog w) A (pyNext it) (fun r s₁ => match r with
      | none => R (.ok .next) s₁
      | some v => wpAny (model prog w) A (letOwnedTupleGo target it v) (fun _ s₀ => wpAny (model prog w) A (assign target env v) (fun _ s₂ =>
          wpAny (model prog w) A (forIn ifs true fun c r => if r = true then do let ok ← isTrue c env (eval c env); pure (ForInStep.yield ok) else pure (ForInStep.yield r)) (fun ok s₃ =>
            if ok = true then wpAny (model prog w) A (eval elt env) (fun x s₄ =>
              wpAny (model prog w) A (call (.builtin "list.append") [acc, x]) (fun _ s₅ => ∃ m, m < n ∧ I m s₅) (fun _ _ => False) s₄) (fun _ _ => False) s₃
            else ∃ m, m < n ∧ I m s₃) (fun _ _ => False) s₂) (fun _ _ => False) s₀) (fun _ _ => False) s₁) (fun _ _ => False) s)
    (n : Nat) (h : I n s) :
    codeAny (model prog w) A (.compLoop (.ListComp elt [⟨target, iter, ifs, 0⟩] scope pos) 0 it acc env) R s := by
  refine codeAny_loop rfl I (fun n s hI => ?_) n h
  show wpAny _ A ((compTurn (.ListComp elt [⟨target, iter, ifs, 0⟩] scope pos) 0 it acc env).onRaise (fun x => do noteFrame x env; theTreesLotGoes x)) _ _ s
  refine wpAny_noted ?_
  rw [compTurn_list]
  refine wpAny_bind (wpAny_standAt (wpAny_bind (wpAny_mono (turn n s hI) (fun r s₁ h₁ => ?_) fun _ _ z => z.elim)))
  cases r with
  | none => exact wpAny_pure h₁
  | some v =>
    refine wpAny_bind (wpAny_mono h₁ (fun _ s₀ h₀ => ?_) fun _ _ z => z.elim)
    refine wpAny_bind (wpAny_mono h₀ (fun _ s₂ h₂ => wpAny_bind (wpAny_mono h₂ (fun ok s₃ h₃ => ?_) fun _ _ z => z.elim)) fun _ _ z => z.elim)
    cases ok with
    | false => exact wpAny_pure ⟨rfl, h₃⟩
    | true =>
      exact wpAny_bind (wpAny_bind (wpAny_mono h₃ (fun x s₄ h₄ => wpAny_bind (wpAny_mono h₄ (fun _ s₅ h₅ => wpAny_pure (wpAny_pure ⟨rfl, h₅⟩)) fun _ _ z => z.elim)) fun _ _ z => z.elim))

/-- what a comprehension's reading asks behind its iterator J: W by the turn, a measure, the items so far -/
def CompW (J : It) (ix : List (Option Nat)) (g : TG) (tf : TT) (te : TE) (σ : St) (H1 : Hp) (Q : Addr → Hp → Prop) : Prop :=
  ∀ D, H1 D = none → ∃ W : Nat → Nat → List V → Hp → Prop, (∃ m, W 0 m [] (upd H1 D (.lst []))) ∧ ∀ i m ys H2, W i m ys H2 → H2 D = some (.lst ys) →
    (J.stop i H2 ∧ Q D H2) ∨ (J.go i H2 ∧ ∀ x H3, J.yld i H2 x H3 → g x (capt ix σ) H3 fun σ4 H4 => tf σ4 H4 fun b H5 =>
      if b = true then te σ4 H5 fun v H6 => H6 D = some (.lst ys) ∧ ys.length < sizeLine ∧ ∃ m', m' < m ∧ W (i + 1) m' (ys ++ [v]) (upd H6 D (.lst (ys ++ [v])))
      else H5 D = some (.lst ys) ∧ ∃ m', m' < m ∧ W (i + 1) m' ys H5)
def tComp (wi : TI) (ix : List (Option Nat)) (g : TG) (tf : TT) (te : TE) : TE := fun σ H Q => wi σ H fun J H1 => CompW J ix g tf te σ H1 fun D H2 => Q (.ref D) H2

section
variable {X : Cx} {N' : List Str} {ix : List (Option Nat)} {sc : Scope} {elt tg iter : Expr} {ifs : List Expr} {wi : TI} {g : TG} {tf : TT} {te : TE} {pos : Pos}

set_option maxHeartbeats 1000000 in
/-- the block, from the iterator on -/
theorem comp_block (S : CompScope X N' ix sc) (hc : X.calm = true)
    (hg : ∀ C s₀ H₀ ex, PG (cxComp X N' sc C s₀ H₀ ex) tg g) (hf : ∀ C s₀ H₀ ex, PF (cxComp X N' sc C s₀ H₀ ex) ifs tf) (he : ∀ C s₀ H₀ ex, PE (cxComp X N' sc C s₀ H₀ ex) elt te)
    {pins : List (Addr × Obj)} {σ : St} {s2 : Shared} {itv : Value} {Q : Addr → Hp → Prop} {E : Value → Shared → Prop} {RR : Value → Addr → Result → Shared → Prop}
    (h2 : PIE X pins σ tg (fun J H1 => CompW J ix g tf te σ H1 Q) itv s2)
    (hR : ∀ (D C : Addr) (H3 H' : Hp) (s3 s' : Shared) (σ' : St) (ex : List Addr) (ps : List (Addr × Obj)), C = s3.heap.objs.size → Inv X pins σ H3 s3 → (∀ b ∈ ex, FpOk X pins H3 b) → Inv (cxComp X N' sc s3.heap.objs.size s3 H3 ex) ps σ' H' s' → Q D H' → RR (.ref D) C (.ok .next) s') :
    wpAny (model X.prog X.w) X.A (newList []) (fun acc s₃ => wpAny (model X.prog X.w) X.A (newFunctionEnv sc X.env.globals (clFrom X.env.cells sc.names []) [] X.env.qual none .none (some X.env)) (fun cenv s₄ =>
      codeAny (model X.prog X.w) X.A (.compStart (.ListComp elt [⟨tg, iter, ifs, 0⟩] sc pos) 0 itv acc { cenv with scope := relabel sc X.env }) (RR acc cenv.locals) s₄) E s₃) E s2 := by
  obtain ⟨it, fp, tn, J, H2, rfl, I2, T, st2, f2, cw⟩ := h2
  obtain ⟨W, ⟨m0, w0⟩, turn⟩ := cw s2.heap.objs.size I2.fresh
  refine wpAny_newObj_type ?_
  generalize hs3 : ({ s2 with heap := s2.heap.push { cls := .type "list", dict := none, data := .seq ([] : List Value).toArray } } : Shared) = s3
  have I3 : Inv X pins σ (upd H2 s2.heap.objs.size (.lst [])) s3 := by
    rw [← hs3]
    exact I2.lnew (its := []) (t' := s2.toks) .nil (Nat.zero_le _)
  have k23 : ∀ b o, s2.heap.get? b = some o → s3.heap.get? b = some o := fun b o e => by rw [← hs3]; exact Heap.get?_push_of_some _ e
  have fD : ∀ b ∈ fp, b ≠ s2.heap.objs.size := fun b hb => by
    obtain ⟨o, e, _⟩ := T.obj _ _ st2 b hb
    exact Nat.ne_of_lt (Heap.lt_size e)
  have f3 : ∀ b ∈ fp, FpOk X pins (upd H2 s2.heap.objs.size (.lst [])) b := fun b hb => ⟨by rw [upd_ne (fD b hb)]; exact (f2 b hb).1, (f2 b hb).2⟩
  have st3 : tn 0 s3.heap := T.keep _ _ _ st2 fun b _ o e => k23 b o e
  have e3 : ∀ b ∈ fp, ∃ o, s3.heap.get? b = some o := fun b hb => by
    obtain ⟨o, e, _⟩ := T.obj _ _ st3 b hb
    exact ⟨o, e⟩
  refine newEnv_comp ?_
  have J4 := comp_start (ex := fp) S I3 f3 e3
  have k34 : ∀ b o, s3.heap.get? b = some o → (pushCells (s3.heap.push { cls := .type "dict", data := .dict #[] }) sc.names).get? b = some o := fun b o e => pushCells_keeps _ _ _ _ (Heap.get?_push_of_some _ e)
  generalize hs4 : ({ s3 with heap := pushCells (s3.heap.push { cls := .type "dict", data := .dict #[] }) sc.names } : Shared) = s4 at J4
  have st4 : tn 0 s4.heap := by rw [← hs4]; exact T.keep _ _ _ st3 fun b _ o e => k34 b o e
  show codeAny (model X.prog X.w) X.A (.compStart (.ListComp elt [⟨tg, iter, ifs, 0⟩] sc pos) 0 (.ref it) (.ref s2.heap.objs.size) (compEnv sc s3.heap.objs.size X.env)) (RR (.ref s2.heap.objs.size) s3.heap.objs.size) s4
  generalize hY : cxComp X N' sc s3.heap.objs.size s3 (upd H2 s2.heap.objs.size (.lst [])) fp = Y at J4
  have yP : Y.prog = X.prog := by rw [← hY]; rfl
  have yw : Y.w = X.w := by rw [← hY]; rfl
  have yK : Y.K = X.K := by rw [← hY]; rfl
  have yA : Y.A = X.A := by rw [← hY]; rfl
  have ye : Y.env = compEnv sc s3.heap.objs.size X.env := by rw [← hY]; rfl
  have yx : Y.xe = fun _ _ => False := by rw [← hY]; rfl
  have yc : Y.calm = true := by rw [← hY]; exact hc
  have yfs : Y.fs = frs X.stack := by rw [← hY]; rfl
  have yex : Y.ex = fp := by rw [← hY]; rfl
  have ypn : Y.pn = [] := by rw [← hY]; rfl
  have yl : Y.env.locals = s3.heap.objs.size := by rw [ye]; rfl
  have hgY : PG Y tg g := by rw [← hY]; exact hg _ _ _ _
  have hfY : PF Y ifs tf := by rw [← hY]; exact hf _ _ _ _
  have heY : PE Y elt te := by rw [← hY]; exact he _ _ _ _
  have okY := J4.ok
  have stat : ∀ {H' : Hp}, (∀ b ∈ fp, H' b = none) → ∀ b ∈ fp, FpOk Y [] H' b := fun hn b hb => by
    have x := okY.exf b (by rw [yex]; exact hb)
    exact ⟨hn b hb, x.1, okY.exfs b (by rw [yex]; exact hb), .inl (by rw [yex]; exact hb), x.2, fun p hp => by rw [ypn] at hp; exact absurd hp (by simp)⟩
  have loop : codeAny (model X.prog X.w) X.A (.compLoop (.ListComp elt [⟨tg, iter, ifs, 0⟩] sc pos) 0 (.ref it) (.ref s2.heap.objs.size) (compEnv sc s3.heap.objs.size X.env)) (RR (.ref s2.heap.objs.size) s3.heap.objs.size) s4 := by
    refine compLoop_any (fun n s' => ∃ i ys H', Inv Y [] (capt ix σ) H' s' ∧ tn i s'.heap ∧ (∀ b ∈ fp, H' b = none) ∧ H' s2.heap.objs.size = some (.lst ys) ∧ W i n ys H') ?_ m0 ⟨0, [], _, J4, st4, fun b hb => (f3 b hb).1, upd_same, w0⟩
    rintro n s5 ⟨i, ys, H5, I5, st5, fr5, hD5, w5⟩
    have lenc : (capt ix σ).length = Y.N.length := J4.len
    rcases turn i n ys H5 w5 hD5 with ⟨stop, q⟩ | ⟨go, step⟩
    · have r := T.done Y yP yw yK yc i [] s5 (capt ix σ) H5 (fun _ _ => False) I5 (stat fr5) st5 stop
      rw [yA] at r
      refine thn r fun r s6 ⟨hr, I6⟩ => ?_
      subst hr
      refine hR _ _ _ H5 s3 s6 (capt ix σ) fp [] rfl I3 f3 ?_ q
      rw [hY]; exact I6
    · have r := T.item Y yP yw yK yc i [] s5 (capt ix σ) H5 (fun _ _ => False) I5 (stat fr5) st5 go
      rw [yA] at r
      refine thn r fun r s6 ⟨u, hr, h6⟩ => ?_
      subst hr
      refine thn h6 fun _ s7 ⟨x, H7, I7, r7, y7, st7, fr7⟩ => ?_
      have I7' := I7.pinned (stat fr7) (T.obj _ _ st7)
      have r2 := hgY _ s7 (capt ix σ) H7 x u _ I7' r7 (step x H7 y7)
      rw [yP, yw, yA, ye, yx] at r2
      refine thn r2 fun _ s8 ⟨σ8, H8, I8, q8⟩ => ?_
      have r3 := hfY _ s8 σ8 H8 _ I8 q8
      rw [yP, yw, yA, ye, yx] at r3
      refine thn r3 fun ok s9 ⟨H9, I9, q9⟩ => ?_
      have again : ∀ {s10 : Shared} {σ10 : St} {H10 : Hp}, Inv Y ([] ++ pinsAt fp s7.heap) σ10 H10 s10 → σ10.length = Y.N.length → Inv Y [] (capt ix σ) H10 s10 → tn (i + 1) s10.heap ∧ ∀ b ∈ fp, H10 b = none := fun {s10 σ10 H10} J _ _ => by
        have p := fun b hb o e => J.pin (b, o) (List.mem_append_right _ (List.mem_append_right _ (mem_pinsAt (fp := fp) (h := s7.heap) (b := b) (o := o) hb e)))
        refine ⟨T.keep _ _ _ st7 fun b hb o e => (p b hb o e).1, fun b hb => ?_⟩
        obtain ⟨o, e, d⟩ := T.obj _ _ st7 b hb
        exact (p b hb o e).2.1
      -- the block's free names still hold what they held: their cells are the outer frame's
      have back : ∀ {s10 : Shared} {H10 : Hp}, Inv Y ([] ++ pinsAt fp s7.heap) σ8 H10 s10 → Inv Y [] (capt ix σ) H10 s10 := fun {s10 H10} J => by
        rw [← hY] at J ⊢
        exact comp_back S I3 f3 J
      cases ok with
      | false =>
        rw [if_neg (by decide)] at q9 ⊢
        obtain ⟨hD9, m', hm, w9⟩ := q9
        have B := back I9
        have z := again I9 I9.len B
        exact ⟨m', hm, i + 1, ys, H9, B, z.1, z.2, hD9, w9⟩
      | true =>
        rw [if_pos rfl] at q9 ⊢
        have r4 := heY _ s9 σ8 H9 _ I9 q9
        rw [yP, yw, yA, ye, yx] at r4
        refine thn r4 fun v s10 ⟨y, H10, I10, r10, hD10, hz, m', hm, w10⟩ => ?_
        have r5 := mt_append (X := Y) _ s10 σ8 H10 (.ref s2.heap.objs.size) [y] (.ref s2.heap.objs.size) [v] (fun _ H11 => H11 = upd H10 s2.heap.objs.size (.lst (ys ++ [y]))) I10 rfl (.cons r10 .nil) ⟨_, ys, y, rfl, rfl, hD10, hz, rfl⟩
        rw [yP, yw, yA, yx] at r5
        refine thn r5 fun _ s11 ⟨_, H11, I11, _, e11⟩ => ?_
        subst e11
        have B := back I11
        have z := again I11 I11.len B
        exact ⟨m', hm, i + 1, ys ++ [y], _, B, z.1, z.2, upd_same, w10⟩
  exact codeAny_compStart_list loop (T.self _ 0 _ _ _ st4 loop)

theorem pe_comp (S : CompScope X N' ix sc) (hc : X.calm = true) (hi : PI X tg iter wi)
    (hg : ∀ C s₀ H₀ ex, PG (cxComp X N' sc C s₀ H₀ ex) tg g) (hf : ∀ C s₀ H₀ ex, PF (cxComp X N' sc C s₀ H₀ ex) ifs tf) (he : ∀ C s₀ H₀ ex, PE (cxComp X N' sc C s₀ H₀ ex) elt te)
    (hs : ∀ x, foldedSetIterable iter X.env x = pure x := by intro _; rfl) : PE X (.ListComp elt [⟨tg, iter, ifs, 0⟩] sc pos) (tComp wi ix g tf te) := by
  intro pins s σ H Q I h
  rw [eval_ListComp]
  have hcl : closureFor sc X.env = pure (clFrom X.env.cells sc.names []) := closure_eq fun x hx hk => I.ok.has x.1 (S.free x hx hk)
  have hnames : ∀ x ∈ sc.names, x.2 = .local → sc.names.lookup x.1 = some .local := fun x hx hk => nodup_lookup S.uniq (by rw [← hk]; exact hx)
  refine wpAny_comprehension_free (use := none) rfl hs hcl S.kind hnames (thn (hi pins s σ H _ I h) fun v s1 h1 => thn h1 fun itv s2 h2 => ?_)
  refine comp_block S hc hg hf he (RR := fun acc C => compPost (model X.prog X.w) X.A X.xe none (EP X pins σ Q) acc C) h2 ?_
  intro D C H3 H' s3 s' σ' ex ps eC I3 f3 J q
  subst eC
  obtain ⟨m, hn, _⟩ := J.loc
  exact ⟨m, hn, fun h' hs' => ⟨.ref D, H', comp_leave I3 f3 J hs', rfl, q⟩⟩

/-- name = [..] where the stores are exchanged -/
def tSetComp (i : Nat) (wi : TI) (ix : List (Option Nat)) (g : TG) (tf : TT) (te : TE) : TS := fun D σ H => wi σ H fun J H1 => CompW J ix g tf te σ H1 fun a H2 => D.nx (σ.set i (some (.ref a))) H2
theorem ps_setComp {i : Nat} {y : Str} {py spos : Pos} (hN : X.N.Nodup) (hy : X.N[i]? = some y) (hL : Loc X.env.scope y) (S : CompScope X N' ix sc) (hc : X.calm = true) (hi : PI X tg iter wi)
    (hg : ∀ C s₀ H₀ ex, PG (cxComp X N' sc C s₀ H₀ ex) tg g) (hf : ∀ C s₀ H₀ ex, PF (cxComp X N' sc C s₀ H₀ ex) ifs tf) (he : ∀ C s₀ H₀ ex, PE (cxComp X N' sc C s₀ H₀ ex) elt te)
    (hsw : swapsWith (.ListComp elt [⟨tg, iter, ifs, 0⟩] sc pos) (some (.Name y py)) spos.line X.env = pure true := by rfl)
    (hs : ∀ x, foldedSetIterable iter X.env x = pure x := by intro _; rfl)
    (hfn : X.fn y = true ∨ X.env.scope.names.lookup y = some .local := by first | exact .inl rfl | exact .inr rfl | assumption) :
    PS X (.Assign [.Name y py] (.ListComp elt [⟨tg, iter, ifs, 0⟩] sc pos) spos) (tSetComp i wi ix g tf te) := by
  intro pins s σ H D I h
  rw [exec_Assign_Name_used _ _ _ _ hsw]
  refine wpAny_bind (wpAny_standAt (wpAny_bind ?_))
  show wpAny _ X.A (do let _ ← comprehension (.ListComp elt [⟨tg, iter, ifs, 0⟩] sc pos) sc X.env _ (newList []) false (eval iter X.env) (some (assign (.Name y py) X.env))) _ _ s
  have hcl : closureFor sc X.env = pure (clFrom X.env.cells sc.names []) := closure_eq fun x hx hk => I.ok.has x.1 (S.free x hx hk)
  have hnames : ∀ x ∈ sc.names, x.2 = .local → sc.names.lookup x.1 = some .local := fun x hx hk => nodup_lookup S.uniq (by rw [← hk]; exact hx)
  refine wpAny_bind (wpAny_mono (wpAny_comprehension_free (use := some (assign (.Name y py) X.env)) (Q := fun _ s' => SP X pins D .next s') rfl hs hcl S.kind hnames
    (thn (hi pins s σ H _ I h) fun v s1 h1 => thn h1 fun itv s2 h2 => ?_)) (fun _ s' hq => wpAny_pure (wpAny_pure hq)) fun _ _ e => e)
  refine comp_block S hc hg hf he (RR := fun acc C => compPost (model X.prog X.w) X.A X.xe (some (assign (.Name y py) X.env)) (fun _ s' => SP X pins D .next s') acc C) h2 ?_
  intro a C H3 H' s3 s' σ' ex ps eC I3 f3 J q
  subst eC
  obtain ⟨m, hn, _⟩ := J.loc
  have I5 : Inv X pins σ H' { s' with heap := s'.heap } := comp_leave I3 f3 J (Heap.SameBut.refl _ _)
  have neL : X.env.locals ≠ s3.heap.objs.size := Nat.ne_of_lt I3.lt
  have neC : ∀ x c, X.env.cells.lookup x = some c → c ≠ s3.heap.objs.size := fun x c e => by
    obtain ⟨v, z⟩ := I3.cell x c e
    exact Nat.ne_of_lt z.lt
  show wpAny (model X.prog X.w) X.A (assign (.Name y py) X.env (.ref a)) _ X.xe s'
  refine wpAny_assign_Name (store_ok2 (v := .ref a) I5 hN hy hL rfl (fun s6 I6 hb => ?_) hfn)
  obtain ⟨b, sb, hb⟩ := hb
  have nb : s3.heap.objs.size ≠ b := by
    rcases hb with z | z
    · rw [z]; exact Ne.symm neL
    · exact Ne.symm (neC _ _ z)
  refine ⟨m, hn.sameBut sb nb, fun h' hs' => ?_⟩
  refine ⟨_, H', I6.turned (t' := s6.toks) (it := s3.heap.objs.size) (fun b o hb e => (hs'.2 b hb).trans e) J.free (Ne.symm neL) (.inr I3.sz) neC (fun p hp z => ?_), q⟩
  have := (I3.pin p hp).1
  exact absurd (Heap.lt_size this) (by rw [z]; exact Nat.lt_irrefl _)
end

def compOk (on : List (Str × NameKind)) (N N' : List Str) (ix : List (Option Nat)) (sc : Scope) : Bool :=
  decide (sc.kind = .function) && decide N'.Nodup && decide (sc.names.map (·.1)).Nodup && decide (ix.length = N'.length) &&
    sc.names.all (fun x => decide (x.2 ≠ .free) || decide (on.lookup x.1 = some .cell) || decide (on.lookup x.1 = some .free)) &&
    (List.range ix.length).all fun i => match ix[i]? with
      | some (some j) => (match N'[i]? with
        | some x => decide (N[j]? = some x) && decide (sc.names.lookup x = some .free)
        | none => false)
      | _ => true
theorem compScope_of {X : Cx} {N' : List Str} {ix : List (Option Nat)} {sc : Scope} (h : compOk X.env.scope.names X.N N' ix sc = true) : CompScope X N' ix sc := by
  unfold compOk at h
  simp only [Bool.and_eq_true, decide_eq_true_eq, List.all_eq_true, Bool.or_eq_true, List.mem_range] at h
  obtain ⟨⟨⟨⟨⟨h1, h2⟩, h3⟩, h4⟩, h5⟩, h6⟩ := h
  refine ⟨h1, h2, h3, h4, fun x hx hk => ?_, fun i j e => ?_⟩
  · rcases h5 x hx with (q | q) | q
    · exact absurd hk q
    · exact .inl q
    · exact .inr q
  · have hi : i < ix.length := (List.getElem?_eq_some_iff.mp e).1
    have q := h6 i hi
    rw [e] at q
    dsimp only at q
    cases e2 : N'[i]? with
    | none => rw [e2] at q; cases q
    | some x =>
      rw [e2] at q
      simp only [Bool.and_eq_true, decide_eq_true_eq] at q
      exact ⟨x, rfl, q.1, q.2⟩

theorem Same.new {H : Hp} {p : Addr} (h : H p = none) (o : HO) : Same H (upd H p o) := fun b u q => by rw [upd_ne (ne_of_none q h)]; exact q
theorem Same.put {H H' : Hp} {p : Addr} (e : Same H H') (h : H p = none) (o : HO) : Same H (upd H' p o) := fun b u q => by rw [upd_ne (ne_of_none q h)]; exact e b u q
theorem Same.tup {K : PySem.W.Frag} {H H' : Hp} {a : Addr} {xs : List V} (e : Same H H') (h : SqT K H a xs) : SqT K H' a xs := by
  rcases h with (h | ⟨o, h⟩) | h
  · exact .inl (.inl (e a _ h))
  · exact .inl (.inr ⟨o, e a _ h⟩)
  · exact .inr h

section
variable {K : PySem.W.Frag} {ix : List (Option Nat)} {g : TG} {tf : TT} {te : TE} {σ : St} {H1 : Hp} {Q : Addr → Hp → Prop}

/-- over a list; Pv: what holds of the items made of the first i -/
theorem comp_list {a : Addr} {xs : List V} (hq : SqL K H1 a xs) (hz : xs.length ≤ sizeLine) (Pv : Nat → List V → Hp → Prop)
    (h0 : ∀ D, H1 D = none → Pv 0 [] (upd H1 D (.lst [])))
    (hs : ∀ D i x ys H (R1 : VK) (R0 : Hp → Prop), H1 D = none → xs[i]? = some x → Same H1 H → H D = some (.lst ys) → Pv i ys H → (∀ v H6, Same H H6 → Pv (i + 1) (ys ++ [v]) (upd H6 D (.lst (ys ++ [v]))) → R1 v H6) →
      (∀ H5, Same H H5 → Pv (i + 1) ys H5 → R0 H5) → g x (capt ix σ) H fun σ4 H4 => tf σ4 H4 fun b H5 => if b = true then te σ4 H5 R1 else R0 H5)
    (hd : ∀ D ys H, H1 D = none → Same H1 H → H D = some (.lst ys) → ys.length ≤ xs.length → Pv xs.length ys H → Q D H) : CompW (Itl K a) ix g tf te σ H1 Q := by
  intro D hD
  refine ⟨fun i m ys H => m = xs.length - i ∧ i ≤ xs.length ∧ Same H1 H ∧ ys.length ≤ i ∧ Pv i ys H, ⟨xs.length, by simp, Nat.zero_le _, Same.new hD _, Nat.le_refl _, h0 D hD⟩, ?_⟩
  rintro i m ys H ⟨rfl, hi, sm, hl, p⟩ hDl
  have q := sm.seq hq
  by_cases hlt : i < xs.length
  · refine .inr ⟨⟨xs, xs[i], q, by simp [hlt]⟩, fun x H3 y => ?_⟩
    obtain ⟨e, y⟩ := y
    subst e
    refine hs D i x ys _ _ _ hD (y xs q) sm hDl p (fun v H6 r1 r2 => ?_) fun H5 r1 r2 => ?_
    · refine ⟨r1 _ _ hDl, by omega, xs.length - (i + 1), by omega, rfl, hlt, (sm.trans r1).put hD _, ?_, r2⟩
      rw [List.length_append, List.length_singleton]; omega
    · exact ⟨r1 _ _ hDl, xs.length - (i + 1), by omega, rfl, hlt, sm.trans r1, by omega, r2⟩
  · have e : i = xs.length := by omega
    subst e
    exact .inl ⟨⟨xs, q, Nat.le_refl _⟩, hd D ys H hD sm hDl hl p⟩
/-- over lo, lo + 1, .. -/
theorem comp_range {lo : Int} {n : Nat} (hz : n ≤ sizeLine) (Pv : Nat → List V → Hp → Prop)
    (h0 : ∀ D, H1 D = none → Pv 0 [] (upd H1 D (.lst [])))
    (hs : ∀ D i ys H (R1 : VK) (R0 : Hp → Prop), H1 D = none → i < n → Same H1 H → H D = some (.lst ys) → Pv i ys H → (∀ v H6, Same H H6 → Pv (i + 1) (ys ++ [v]) (upd H6 D (.lst (ys ++ [v]))) → R1 v H6) →
      (∀ H5, Same H H5 → Pv (i + 1) ys H5 → R0 H5) → g (.int (lo + i)) (capt ix σ) H fun σ4 H4 => tf σ4 H4 fun b H5 => if b = true then te σ4 H5 R1 else R0 H5)
    (hd : ∀ D ys H, H1 D = none → Same H1 H → H D = some (.lst ys) → ys.length ≤ n → Pv n ys H → Q D H) : CompW (Itr lo n) ix g tf te σ H1 Q := by
  intro D hD
  refine ⟨fun i m ys H => m = n - i ∧ i ≤ n ∧ Same H1 H ∧ ys.length ≤ i ∧ Pv i ys H, ⟨n, by simp, Nat.zero_le _, Same.new hD _, Nat.le_refl _, h0 D hD⟩, ?_⟩
  rintro i m ys H ⟨rfl, hi, sm, hl, p⟩ hDl
  by_cases hlt : i < n
  · refine .inr ⟨hlt, fun x H3 y => ?_⟩
    obtain ⟨e, y⟩ := y
    subst e; subst y
    refine hs D i ys _ _ _ hD hlt sm hDl p (fun v H6 r1 r2 => ?_) fun H5 r1 r2 => ?_
    · refine ⟨r1 _ _ hDl, by omega, n - (i + 1), by omega, rfl, hlt, (sm.trans r1).put hD _, ?_, r2⟩
      rw [List.length_append, List.length_singleton]; omega
    · exact ⟨r1 _ _ hDl, n - (i + 1), by omega, rfl, hlt, sm.trans r1, by omega, r2⟩
  · have e : i = n := by omega
    subst e
    exact .inl ⟨Nat.le_refl _, hd D ys H hD sm hDl hl p⟩
theorem take_map_succ {α β : Type} (f : α → β) (xs : List α) (i : Nat) (x : α) (h : xs[i]? = some x) : (xs.take (i + 1)).map f = (xs.take i).map f ++ [f x] := by
  rw [List.take_succ, h]
  simp
theorem comp_range_map {lo : Int} {n i₀ : Nat} (f : Nat → V) (hz : n ≤ sizeLine)
    (hs : ∀ (i : Nat) (H : Hp) (R : VK), i < n → Same H1 H → (∀ H6, Same H H6 → R (f i) H6) → te ((capt ix σ).set i₀ (some (.int (lo + i)))) H R)
    (hd : ∀ D H, H1 D = none → Same H1 H → H D = some (.lst ((List.range n).map f)) → Q D H) : CompW (Itr lo n) ix (gName i₀) tYes te σ H1 Q := by
  refine comp_range hz (fun i ys _ => ys = (List.range i).map f) (fun D hD => by simp) (fun D i ys H R1 R0 hD hi sm hDl p k1 k0 => ?_) fun D ys H hD sm hDl hl p => ?_
  · show te ((capt ix σ).set i₀ (some (.int (lo + i)))) H R1
    exact hs i H R1 hi sm fun H6 s6 => k1 _ _ s6 (by rw [List.range_succ, List.map_append, p]; rfl)
  · refine hd D H hD sm ?_
    rw [hDl, p]
end
end L2


namespace L2
open PySem PySem.Spec PyProof.Rows

section
variable {X : Cx}

theorem strsAre_of : ∀ {ys : List Str} {us : List Value}, Vals (ys.map V.str) us → StrsAre us ys
  | [], _, h => by cases h; exact .nil
  | y :: ys, _, h => by
    cases h with
    | cons r t =>
      obtain ⟨tk, rfl⟩ := r
      exact .cons y tk (strsAre_of t)

/-- sep.join(xs), xs a list of texts -/
def rJoin (K : PySem.W.Frag) : V → List V → Hp → VK → Prop := fun x vs H Q => ∃ sep a ys, x = .str sep ∧ vs = [.ref a] ∧ SqL K H a (ys.map V.str) ∧ (ys.map (·.length)).sum + ys.length * sep.length ≤ 16777216 ∧ Q (.str (Txt.join sep ys)) H
theorem mt_join : MtR X "str.join" (rJoin X.K) := by
  intro pins s σ H x vs v us Q I rx rv h
  obtain ⟨sep, a, ys, rfl, rfl, hq, hz, q⟩ := h
  obtain ⟨t, rfl⟩ := rx
  obtain ⟨u, rfl, ru⟩ := rv.one
  cases ru
  obtain ⟨its, r, p, _⟩ := I.list hq
  exact join_list p.isList (by simpa using strsAre_of r) hz fun t' k => ⟨.str _, H, I.tok _, ⟨_, rfl⟩, q⟩

variable {e : Expr} {te : TE} {pos p2 p3 p4 : Pos}
theorem call_all : CallR X (.builtin "all") (fun xs H Q => X.calm = true ∧ ∃ (a : Addr) (bs : List Bool), xs = [.ref a] ∧ SqL X.K H a (bs.map V.bl) ∧ Q (.bl (bs.all fun b => b)) H) := by
  intro pins s σ H xs us Q I r h
  obtain ⟨hc, a, bs, rfl, hq, q⟩ := h
  obtain ⟨u, rfl, ru⟩ := vals1 r
  cases ru
  obtain ⟨its, rv, p, hz⟩ := I.list hq
  have hlen := rv.length
  rw [List.length_map] at hlen
  refine call_all_walk (wpAny_pyIter_list p.isList ?_)
  have ha : a ≠ s.heap.objs.size := by obtain ⟨o, n, e, _⟩ := p; exact Nat.ne_of_lt (Heap.lt_size e)
  refine ⟨s.heap.objs.size, _, _, _, _, _, fun i => (bs[i]?).getD true, rfl, Walks.list (by rw [Around.in1_handled]; exact I.ok.hd hc) s.heap.objs.size a ha its.toArray, ?_, ?_, fun h' tk k => ?_⟩
  · exact ⟨⟨_, Heap.get?_push_size _ rfl, rfl, rfl⟩, p.isList.push _⟩
  · intro i v s' Q' E' hv hq'
    have hv' : its.toArray[i]? = some v := hv
    have hi : its[i]? = some v := by simpa using hv'
    have hil : i < bs.length := by rw [hlen]; exact (List.getElem?_eq_some_iff.mp hi).1
    obtain ⟨u', hu', ru'⟩ := rv.get (i := i) (x := .bl bs[i]) (by rw [List.getElem?_map, List.getElem?_eq_getElem hil]; rfl)
    rw [hi] at hu'
    cases hu'
    cases ru'
    have hq2 : Q' ((bs[i]?).getD true) s' := hq'
    rw [List.getElem?_eq_getElem hil] at hq2
    exact wpAny_truthy_bool hq2
  · have e : (List.range its.toArray.size).all (fun i => (bs[i]?).getD true) = bs.all fun b => b := by
      rw [List.size_toArray, ← hlen]
      rw [Bool.eq_iff_iff]
      simp only [List.all_eq_true, List.mem_range]
      constructor
      · intro z b hb
        obtain ⟨i, hi, e⟩ := List.mem_iff_getElem.mp hb
        have := z i hi
        rw [List.getElem?_eq_getElem hi] at this
        rw [← e]; exact this
      · intro z i hi
        rw [List.getElem?_eq_getElem hi]
        exact z _ (List.getElem_mem hi)
    rw [e]
    have I2 : Inv X pins σ H { s with heap := s.heap.push { cls := .type "list_iterator", data := .fields #[.ref a, .int 0 0] } } := I.kept (t' := s.toks) fun b o e => Heap.get?_push_of_some _ e
    exact ⟨.bl _, H, I.kept (t' := tk) (h' := h') fun b o e => k b o (by simp; exact Nat.ne_of_lt (Heap.lt_size e)) (Heap.get?_push_of_some _ e), rfl, q⟩

/-- n values, each known by its place -/
def Itv (f : Nat → V) (n : Nat) : It := ⟨fun i _ => i < n, fun i H x H' => H' = H ∧ x = f i, fun i _ => n ≤ i⟩
def signAt (x : Str) (i : Nat) : V := .str ⟨#[x.cps.getD i 0]⟩
theorem turn_str {P : Program} {w : World} {K : PySem.W.Frag} {tg : Expr} (it : Addr) (ty : String) (x : Str) (t : Tok) (hty : ["enumerate", "zip", "dict_itemiterator", "dict_reverseitemiterator", "odict_iterator", "itertools.zip_longest", "itertools.pairwise"].contains ty = false)
    (wi : ∀ (A : Around) (s : Shared) (i c : Nat) (Q : Option Value → Shared → Prop) (E : Value → Shared → Prop), s.heap.IsStrIter it ty x t i → x.cps[i]? = some c → (∀ h', h'.IsStrIter it ty x t (i + 1) → Heap.SameBut it s.heap h' → Q (some (.str ⟨#[c]⟩ s.toks)) { s with heap := h', toks := s.toks + 1 }) → wpAny (model P w) A (pyNext (.ref it)) Q E s)
    (we : ∀ (A : Around) (s : Shared) (i : Nat) (Q : Option Value → Shared → Prop) (E : Value → Shared → Prop), A.handled = none → s.heap.IsStrIter it ty x t i → x.cps[i]? = none → (∀ h', Heap.ExtBut it s.heap h' → Q none { s with heap := h' }) → wpAny (model P w) A (pyNext (.ref it)) Q E s)
    (ws : ∀ (A : Around) (s : Shared) (i : Nat) (Q : Value → Shared → Prop) (E : Value → Shared → Prop), s.heap.IsStrIter it ty x t i → Q (.ref it) s → wpAny (model P w) A (pyIter (.ref it)) Q E s) :
    Turn P w K tg (Itv (signAt x) x.cps.size) [it] it (fun i h => h.IsStrIter it ty x t i) where
  mem := by simp
  obj := fun i h st b hb => by
    have e : b = it := by simpa using hb
    subst e
    obtain ⟨o, e, c, d⟩ := st
    exact ⟨o, e, fun v z => by rw [d] at z; cases z⟩
  keep := fun i h h' st k => by
    obtain ⟨o, e, r⟩ := st
    exact ⟨o, k it (by simp) o e, r⟩
  item := by
    intro X hP hw hK hc i pins s σ H E I hf st hg
    subst hP hw hK
    obtain ⟨f0, f1, f2, f3, f4, f5⟩ := hf it (by simp)
    have hi : i < x.cps.size := hg
    refine wi X.A s i x.cps[i] _ _ st (Array.getElem?_eq_getElem hi) fun h' st' sb => ?_
    have I1 : Inv X pins σ H { s with heap := h', toks := s.toks + 1 } := I.turned (fun b o hb e => (sb.2 b hb).trans e) f0 f1 f3 f4 f5
    obtain ⟨o, e, ec, ed⟩ := id st'
    refine ⟨_, rfl, go_of (s := { s with heap := h', toks := s.toks + 1 }) e ec ed hty ⟨signAt x i, H, I1, ⟨s.toks, ?_⟩, ⟨rfl, rfl⟩, st', fun b hb => (hf b hb).1⟩⟩
    have : x.cps.getD i 0 = x.cps[i] := by rw [Array.getD_eq_getD_getElem?, Array.getElem?_eq_getElem hi]; rfl
    rw [this]
  done := by
    intro X hP hw hK hc i pins s σ H E I hf st hg
    subst hP hw hK
    obtain ⟨f0, f1, f2, f3, f4, f5⟩ := hf it (by simp)
    have hi : x.cps.size ≤ i := hg
    exact we X.A s i _ _ (I.ok.hd hc) st (Array.getElem?_eq_none hi) fun h' eb => ⟨rfl, I.turned (t' := s.toks) (fun b o hb e => eb b o hb e) f0 f1 f3 f4 f5⟩
  self := fun A i s Q E st h => ws A s i Q E st h
def iStr (tl : TE) : TI := fun σ H R => tl σ H fun x H1 => ∃ y, x = .str y ∧ R (Itv (signAt y) y.cps.size) H1
theorem pi_str {tg l : Expr} {tl : TE} (hl : PE X l tl) : PI X tg l (iStr tl) := by
  intro pins s σ H R I h
  refine thn (hl pins s σ H _ I h) fun v s1 ⟨x, H1, I1, r1, q1⟩ => ?_
  obtain ⟨y, e, q⟩ := q1
  subst e
  obtain ⟨t, rfl⟩ := r1
  have fin : ∀ (o : Obj), ∀ b ∈ [s1.heap.objs.size], FpOk X pins H1 b := fun o b hb => by
    have e : b = s1.heap.objs.size := by simpa using hb
    subst e
    exact I1.fpOk (Nat.le_refl _) (I1.hok.fresh (Nat.le_refl _))
  cases ha : y.cps.all (· < 128)
  · refine wpAny_pyIter_wide ha ?_
    exact ⟨s1.heap.objs.size, [s1.heap.objs.size], _, _, H1, rfl, I1.kept (t' := s1.toks) fun b o e => Heap.get?_push_of_some _ e,
      turn_str _ "str_iterator" y t (by decide) (fun A s i c Q E st hx k => wpAny_pyNext_wide_item st hx k) (fun A s i Q E hh st hx k => wpAny_pyNext_wide_end hh st hx k) (fun A s i Q E st k => wpAny_pyIter_striter_wide st k),
      ⟨_, Heap.get?_push_size _ rfl, rfl, rfl⟩, fin default, q⟩
  · refine wpAny_pyIter_ascii ha ?_
    exact ⟨s1.heap.objs.size, [s1.heap.objs.size], _, _, H1, rfl, I1.kept (t' := s1.toks) fun b o e => Heap.get?_push_of_some _ e,
      turn_str _ "str_ascii_iterator" y t (by decide) (fun A s i c Q E st hx k => wpAny_pyNext_ascii_item st hx k) (fun A s i Q E hh st hx k => wpAny_pyNext_ascii_end hh st hx k) (fun A s i Q E st k => wpAny_pyIter_striter_ascii st k),
      ⟨_, Heap.get?_push_size _ rfl, rfl, rfl⟩, fin default, q⟩

end
end L2


namespace L2
open PySem PySem.Spec PyProof.Rows

/-- an exception at a of class cls flies at the frames outer: s, H the state ahead of the call, s', H' the state behind; B: what it leaves as it is -/
structure Fly (P : Program) (w : World) (outer : List Env) (H : Hp) (s : Shared) (a : Addr) (cls a0 : Value) (B : Heap) (H' : Hp) (s' : Shared) : Prop where
  os : s'.os = s.os
  bare : AllBare s'.gens
  un : Un (frs outer) [] H H' s.heap s'.heap
  hok : HOk P w H' s'.heap
  new : s.heap.get? a = none
  out : H' a = none
  fly : Heap.FlyingW B outer a cls a0 s'.heap
  inB : ∀ b o, s.heap.get? b = some o → b ∉ frs outer → ∃ o', B.get? b = some o'
  trB : ∀ b u, H' b = some u → ∃ o', B.get? b = some o'

theorem ObjOk.obj {P : Program} {w : World} {H : Hp} {h : Heap} {a : Addr} {o : HO} (x : ObjOk P w H h a o) : ∃ ob, h.get? a = some ob := by
  cases o with
  | lst xs => obtain ⟨_, _, _, _, e⟩ := x; exact ⟨_, e⟩
  | tup xs => obtain ⟨_, _, _, ob, e, _⟩ := x; exact ⟨_, e⟩
  | dK kvs => obtain ⟨_, _, _, _, o, _, _, e, _⟩ := x; exact ⟨_, e⟩
  | dT kvs => obtain ⟨_, _, _, _, o, _, _, e, _⟩ := x; exact ⟨_, e⟩
  | set S n => obtain ⟨o, _, _, _, e, _⟩ := x; exact ⟨_, e⟩
  | ins C dx fs => obtain ⟨_, _, _, e, _⟩ := x; exact ⟨_, e⟩
  | own y => exact x
  | xd fs => obtain ⟨_, ⟨_, _, _, e, _⟩, _⟩ := x; exact ⟨_, e⟩
  | rng lo hi => obtain ⟨_, _, _, e⟩ := x; exact ⟨_, e⟩
  | frz ob u => obtain ⟨e, _⟩ := x; exact ⟨_, e⟩
  | tbl ps => exact ⟨_, (show h.get? a = some _ from x)⟩
  | met f y => exact ⟨_, (show h.get? a = some _ from x)⟩
  | ext φ => obtain ⟨_, e, _⟩ := x; exact e

/-- how an exception lies behind a call -/
def CX1 (P : Program) (w : World) : CXT := fun outer H s E e s' => ∃ (a : Addr) (cls a0 : Value) (B : Heap) (H' : Hp), e = .ref a ∧ Fly P w outer H s a cls a0 B H' s' ∧ E cls none H'

section
variable {P : Program} {w : World} {outer : List Env} {H H' : Hp} {s s' : Shared} {a : Addr} {cls a0 : Value} {B h5 : Heap}

theorem Fly.frm (F : Fly P w outer H s a cls a0 B H' s') : ∀ b ∈ frs outer, B.get? b = none ∧ ∃ o, s'.heap.get? b = some o ∧ ∀ vs, o.data ≠ .fields vs := fun b hb => F.fly.2.2.1.mem hb
theorem Fly.un' (F : Fly P w outer H s a cls a0 B H' s') (st : B.StaysIn h5) (us : s'.heap.UpToSlots h5) : Un (frs outer) [] H H' s.heap h5 where
  keep := fun b o e n hb hx => by
    have e1 := F.un.keep b o e n hb hx
    obtain ⟨o', e2⟩ := F.inB b o e hb
    have e3 := F.fly.1 b o' e2
    rw [e1] at e3
    cases e3
    exact st b o e2
  slot := fun b o e n hb hx => by
    obtain ⟨sl, e1⟩ := F.un.slot b o e n hb hx
    obtain ⟨_, o2, e2, d2⟩ := F.frm b hb
    rw [e1] at e2
    cases e2
    obtain ⟨sl', e3⟩ := us b _ e1 d2
    exact ⟨sl', e3⟩
  free := F.un.free
  there := fun b o e hx => by
    by_cases hb : b ∈ frs outer
    · obtain ⟨_, o2, e2, d2⟩ := F.frm b hb
      obtain ⟨sl', e3⟩ := us b _ e2 d2
      exact ⟨_, e3⟩
    · obtain ⟨o', e2⟩ := F.inB b o e hb
      exact ⟨o', st b o' e2⟩
  tups := F.un.tups
  frzs := F.un.frzs
  tbls := F.un.tbls
theorem Fly.hok' (F : Fly P w outer H s a cls a0 B H' s') (st : B.StaysIn h5) : HOk P w H' h5 := fun b u e => by
  refine (F.hok b u e).stay (fun c v hc q => ?_) (fun _ q => q) fun _ _ q => q
  have : ∃ u', H' c = some u' := by
    rcases hc with z | z
    · exact ⟨u, z ▸ e⟩
    · exact ⟨_, z⟩
  obtain ⟨u', z⟩ := this
  obtain ⟨o', e2⟩ := F.trB c u' z
  have e3 := F.fly.1 c o' e2
  rw [q] at e3
  cases e3
  exact st c v e2
end

section
variable {X : Cx} {pins : List (Addr × Obj)} {σ : St} {H H' : Hp} {s s' : Shared} {a : Addr} {cls a0 : Value} {B : Heap} {M : Model} {E : Value → Shared → Prop} {Q : Unit → Shared → Prop}

/-- it passes through this frame -/
theorem fly_leave (I : Inv X pins σ H s) (hx : X.ex = []) (hst : X.stack = X.env :: X.outer) (hfr : X.env.frame = some X.env.locals) (F : Fly X.prog X.w X.stack H s a cls a0 B H' s')
    (h : ∀ s'', Fly X.prog X.w X.outer X.H₀ X.s₀ a cls a0 B H' s'' → Q () s'') : wpAny M X.A (leaving X.env (.ref a)) Q E s' := by
  have fl : Heap.FlyingW B (X.env :: X.outer) a cls a0 s'.heap := hst ▸ F.fly
  refine wpAny_leaves_onW (by rw [I.ok.frames, hst]) hfr fl fun h5 fl5 us => h _ ?_
  have u := F.un' fl5.1 us
  have sub : ∀ b, b ∈ frs X.stack ↔ b = X.env.locals ∨ b ∈ X.fs := fun b => by
    rw [hst]
    unfold frs
    rw [List.filterMap_cons, hfr]
    exact List.mem_cons
  have ne : ∀ b o, X.s₀.heap.get? b = some o → b ≠ X.env.locals := fun b o e => Nat.ne_of_lt (Nat.lt_of_lt_of_le (Heap.lt_size e) I.ok.above)
  have nx : ∀ b, b ∉ X.ex := fun b => by rw [hx]; simp
  have nin : ∀ b o, X.s₀.heap.get? b = some o → b ∉ X.fs → b ∉ frs X.stack := fun b o e hb z => by
    rcases (sub b).mp z with q | q
    · exact ne b o e q
    · exact hb q
  refine ⟨F.os.trans I.os, F.bare, ⟨fun b o e n hb _ => ?_, fun b o e n hb _ => ?_, fun b o e n _ => ?_, fun b o e _ => ?_, fun b xs e => u.tups b xs (I.base.tups b xs e), fun b o v e => u.frzs b o v (I.base.frzs b o v e), fun b ps e => ?_⟩, F.hok' fl5.1, ?_, F.out, fl5, fun b o e hb => ?_, F.trB⟩
  · exact u.keep b o (I.base.keep b o e n hb (nx b)) (I.base.free b o e n (nx b)) (nin b o e hb) (by simp)
  · obtain ⟨sl, e1⟩ := I.base.slot b o e n hb (nx b)
    obtain ⟨sl', e2⟩ := u.slot b _ e1 (I.base.free b o e n (nx b)) ((sub b).mpr (.inr hb)) (by simp)
    exact ⟨sl', e2⟩
  · obtain ⟨o', e1⟩ := I.base.there b o e (nx b)
    exact u.free b o' e1 (I.base.free b o e n (nx b)) (by simp)
  · obtain ⟨o', e1⟩ := I.base.there b o e (nx b)
    exact u.there b o' e1 (by simp)
  · obtain ⟨m1, e1⟩ := I.base.tbls b ps e
    obtain ⟨m2, e2⟩ := u.tbls b _ e1
    exact ⟨m1 ++ m2, by rw [e2, Array.append_assoc]⟩
  · cases q : X.s₀.heap.get? a with
    | none => rfl
    | some o =>
      obtain ⟨o', e1⟩ := I.base.there a o q (nx a)
      rw [F.new] at e1; cases e1
  · obtain ⟨o', e1⟩ := I.base.there b o e (nx b)
    exact F.inB b o' e1 (nin b o e hb)

/-- it has just been made here -/
theorem fly_made {h2 : Heap} {args : List Value} (I : Inv X pins σ H s) (hx : X.ex = []) (hst : X.stack = X.env :: X.outer) (hfr : X.env.frame = some X.env.locals) (hm : Heap.MadeExcOf s.heap h2 a cls args)
    (h : ∀ B a0 s'', Fly X.prog X.w X.outer X.H₀ X.s₀ a cls a0 B H s'' → Q () s'') : wpAny M X.A (leaving X.env (.ref a)) Q E { s with heap := h2 } := by
  have fun0 : s.heap.FunFrames X.base (X.env :: X.outer) := hst ▸ I.stack
  have hin : ∀ env ∈ (X.env :: X.outer), ∀ b, env.frame = some b → b ∈ frs X.stack := fun env he b hb => by rw [hst]; exact List.mem_filterMap.mpr ⟨env, he, hb⟩
  refine wpAny_leaves_madeW (base := PySem.W.hideAll s.heap (frs X.stack)) (h := s.heap) (by rw [I.ok.frames, hst]) hfr (fun b o q => PySem.W.of_hideAll _ q) (PySem.W.funFrames_hide fun0 hin) hm fun h5 t fl5 _ _ us => h (PySem.W.hideAll s.heap (frs X.stack)) (.ref t) _ ?_
  have sub : ∀ b, b ∈ frs X.stack ↔ b = X.env.locals ∨ b ∈ X.fs := fun b => by
    rw [hst]
    unfold frs
    rw [List.filterMap_cons, hfr]
    exact List.mem_cons
  have ne : ∀ b o, X.s₀.heap.get? b = some o → b ≠ X.env.locals := fun b o e => Nat.ne_of_lt (Nat.lt_of_lt_of_le (Heap.lt_size e) I.ok.above)
  have nx : ∀ b, b ∉ X.ex := fun b => by rw [hx]; simp
  have nin : ∀ b o, X.s₀.heap.get? b = some o → b ∉ X.fs → b ∉ frs X.stack := fun b o e hb z => by
    rcases (sub b).mp z with q | q
    · exact ne b o e q
    · exact hb q
  have inBs : ∀ b o, s.heap.get? b = some o → b ∉ frs X.stack → (PySem.W.hideAll s.heap (frs X.stack)).get? b = some o := fun b o e hb => PySem.W.hideAll_get _ e hb
  have tr : ∀ b u, H b = some u → ∃ o, s.heap.get? b = some o ∧ b ∉ frs X.stack := fun b u e => by
    obtain ⟨ob, q⟩ := (I.hok b u e).obj
    refine ⟨ob, q, fun z => ?_⟩
    rw [I.stkFree b z] at e; cases e
  have kp : ∀ b o, s.heap.get? b = some o → b ∉ frs X.stack → h5.get? b = some o := fun b o e hb => fl5.1 b o (inBs b o e hb)
  have sl5 : ∀ b o, s.heap.get? b = some o → b ∈ frs X.stack → ∃ sl, h5.get? b = some { o with slots := sl } := fun b o e hb => by
    obtain ⟨_, o2, e2, d2⟩ := I.stack.mem hb
    rw [e] at e2; cases e2
    exact us b o (hm.keeps b o e) d2
  refine ⟨I.os, I.bare, ⟨fun b o e n hb _ => ?_, fun b o e n hb _ => ?_, fun b o e n _ => I.base.free b o e n (nx b), fun b o e _ => ?_, I.base.tups, I.base.frzs, I.base.tbls⟩, fun b u e => ?_, ?_, ?_, fl5, fun b o e hb => ?_, fun b u e => ?_⟩
  · exact kp b o (I.base.keep b o e n hb (nx b)) (nin b o e hb)
  · obtain ⟨sl, e1⟩ := I.base.slot b o e n hb (nx b)
    obtain ⟨sl', e2⟩ := sl5 b _ e1 ((sub b).mpr (.inr hb))
    exact ⟨sl', e2⟩
  · obtain ⟨o', e1⟩ := I.base.there b o e (nx b)
    by_cases hb : b ∈ frs X.stack
    · obtain ⟨sl', e2⟩ := sl5 b _ e1 hb
      exact ⟨_, e2⟩
    · exact ⟨o', kp b o' e1 hb⟩
  · refine (I.hok b u e).stay (fun c v hc q => ?_) (fun _ q => q) fun _ _ q => q
    refine kp c v q fun z => ?_
    have z' := I.stkFree c z
    rcases hc with y | y
    · rw [y, e] at z'; cases z'
    · rw [y] at z'; cases z'
  · cases q : X.s₀.heap.get? a with
    | none => rfl
    | some o =>
      obtain ⟨o', e1⟩ := I.base.there a o q (nx a)
      rw [hm.new] at e1; cases e1
  · cases q : H a with
    | none => rfl
    | some u =>
      obtain ⟨o, e, _⟩ := tr a u q
      rw [hm.new] at e; cases e
  · obtain ⟨o', e1⟩ := I.base.there b o e (nx b)
    exact ⟨o', inBs b o' e1 (nin b o e hb)⟩
  · obtain ⟨o, e1, e2⟩ := tr b u e
    exact ⟨o, inBs b o e1 e2⟩

/-- the state again where it is caught (or looked at) -/
theorem fly_inv {h5 : Heap} (I : Inv X pins σ H s) (F : Fly X.prog X.w X.stack H s a cls a0 B H' s') (st : B.StaysIn h5) (us : s'.heap.UpToSlots h5) : Inv X pins σ H' { s' with heap := h5 } :=
  I.call' (s' := { s' with heap := h5 }) (ch := []) F.os (F.un' st us) (F.hok' st) F.bare fun b hb => absurd hb (by simp)
end

/-- what the top has made of an own class of errors below ValueError -/
structure ExcCl (K : PySem.W.Frag) (mg : Str → Option Value) (x : Str) (C : Addr) : Prop where
  mg : mg x = some (.ref C)
  ok : PySem.W.excIn K C [.type "ValueError", .type "Exception", .type "BaseException", .type "object"] "ValueError.__new__" = true

theorem exc_obj {K : PySem.W.Frag} {h : Heap} {C : Addr} {bmB : List Value} {newId : String} (X : K.In h) (q : PySem.W.excIn K C bmB newId = true) :
    ∃ bm N nm qn bs hdct sn sub ab col dd k0 k1 k2 k3 k5 mN, h.get? C = some (excClassObj nm qn C N bs bm hdct sn sub ab col dd k0 k1 k2 k3 k5 newId) ∧ h.Ns N mN ∧ mN "__init__" = none ∧ OwnTail h bmB bm := by
  unfold PySem.W.excIn at q
  split at q
  · rename_i dd cd sl ho
    split at q
    · rename_i C' bm k0 k1 k2 k3 n k5 hm hs
      simp only [Bool.and_eq_true, beq_iff_eq, Bool.not_eq_true'] at q
      obtain ⟨⟨⟨⟨⟨e1, e2⟩, hdel⟩, ht⟩, hok⟩, hni⟩ := q
      subst e1; subst e2
      obtain ⟨nm, bs, mro, ns, qn, hd, sn, sub, ab, col, del⟩ := cd
      dsimp only at hm hdel hok hni
      subst hm; subst hdel
      obtain ⟨l⟩ := sl
      have hs' : l = [k0, k1, k2, k3, some (.builtin n), k5] := hs
      subst hs'
      exact ⟨bm, ns, nm, qn, bs, hd, sn, sub, ab, col, dd, k0, k1, k2, k3, k5, _, X _ _ ho, .of_isNs (PySem.W.isNs_of_in X hok), PySem.W.nsMap_none_of_in X hok hni, PySem.W.tail_of_in X ht⟩
    · cases q
  · cases q

/-- a def of the text whose exceptions leave by CX1: what its context wishes -/
def RaiseX (X : Cx) (E : XK) : Prop := ∀ e s', wpAny (model X.prog X.w) X.A (leaving X.env e) (fun _ s'' => CX1 X.prog X.w X.outer X.H₀ X.s₀ E e s'') (fun e' s'' => CX1 X.prog X.w X.outer X.H₀ X.s₀ E e' s'') s' → X.xe e s'

section
variable {X : Cx} {E E' : XK} {x : Str} {C : Addr} {e₀ : Expr} {rest : List Expr} {ta : TA} {np cpos pos : Pos}
def tRaise (C : Addr) (E : XK) (ta : TA) : TS := fun _ σ H => ta σ H fun vs H1 => vs.length ≤ sizeLine ∧ E (.ref C) none H1
theorem ps_raise (hR : RaiseX X E) (hx : X.ex = []) (hst : X.stack = X.env :: X.outer) (hfr : X.env.frame = some X.env.locals) (hc : X.calm = true) (K : ExcCl X.K X.mg x C) (hg : Gl X x) (ha : PA X (e₀ :: rest) ta)
    (he : starEach (e₀ :: rest) X.env = (false, eval e₀ X.env) :: starEach rest X.env := by rfl) (hp : (backTo cpos (starEach rest X.env)).any (·.1) = false := by rfl) (hd : (x == ("__debug__" : Str)) = false := by decide) :
    PS X (.Raise (some (.Call (.Name x np) (e₀ :: rest) [] cpos)) none pos) (tRaise C E ta) := by
  intro pins s σ H D I h
  obtain ⟨bm, N, nm, qn, bs, hdct, sn, sub, ab, col, dd, k0, k1, k2, k3, k5, mN, hC, hN, hni, T⟩ := exc_obj I.mod.kin K.ok
  refine wpAny_Raise_call_subU (C := C) (nm := nm) (q := qn) (N := N) (bs := bs) (bm := bm) (hdct := hdct) (sn := sn) (sub := sub) (ab := ab) (col := col) (dd := dd) (k0 := k0) (k1 := k1) (k2 := k2) (k3 := k3) (k5 := k5)
    PySem.F.excBase_ValueError rfl PySem.F.excBase_ValueError (mN := mN) (T.hasType PySem.F.excBase_ValueError.hasBase) (I.ok.hd hc) (by rw [he]; exact hp) hni (ld_glob I hg K.mg ⟨rfl, ?_⟩ hd)
  have r := ha cpos pins s σ H _ I h
  rw [he] at r ⊢
  refine Calls.evalArgs_plain (thn r fun us s1 ⟨vs, H1, I1, rv, hl, q⟩ => ?_)
  refine ⟨rfl, by rw [← rv.length]; exact hl, I1.bk _ _ hC, hN.keeps I1.bk, T.keeps I1.bk, fun h' e hm => hR _ _ ?_⟩
  exact fly_made I1 hx hst hfr hm fun B a0 s'' F => ⟨e, _, a0, B, H1, rfl, F, q⟩
/-- an exception of a callee passes through this def -/
theorem passes1 (hR : RaiseX X E) (hx : X.ex = []) (hst : X.stack = X.env :: X.outer) (hfr : X.env.frame = some X.env.locals) (hE : ∀ c d H', E' c d H' → E c d H') : Passes (CX1 X.prog X.w) X E' := by
  intro pins σ H s e s' I h
  obtain ⟨a, cls, a0, B, H', rfl, F, q⟩ := h
  exact hR _ _ (fly_leave I hx hst hfr F fun s'' F' => ⟨a, cls, a0, B, H', rfl, F', hE _ _ _ q⟩)
end

/-- THE RULE for a def that may raise -/
theorem Fun.okX {P : Program} {w : World} {K : PySem.W.Frag} {mg : Str → Option Value} {base : Heap} {x qual : Str} {st : Stmt} {f : Addr} {fd : FuncData} {N ps : List Str} {k : Nat} {sp : Sp} (F : Fun K x qual st f fd) (S : FnScope N ps (defScope st)) (len : ∀ vs H Q E, sp vs H Q E → vs.length = ps.length)
    (hbody : ∀ (cdv : Value) (A : Around) (outer : List Env) (s : Shared) (H : Hp) (vs : List V) (Q : VK) (E : XK), Room k (A.deeper (envOfC qual (defScope st) s.heap.objs.size f cdv)) → sp vs H Q E →
      ∃ t, PSs (cxOf (CX1 P w) P w K mg base N qual (defScope st) f cdv A outer s H E) (defBody st) t ∧ t { nx := fun _ H' => Q .non H', rt := Q } (start N vs) H) : FnOk P w K mg base (CX1 P w) (k + 1) f fd ps sp := by
  obtain ⟨oc, od, kV, doc, pm, an, cdv, ct, osl, rfl, lk, hcd⟩ := F.ex
  exact fn_of lk hcd S len fun A outer s H vs Q E hr hsp => hbody cdv A outer s H vs Q E hr hsp
theorem raiseX {P : Program} {w : World} {K : PySem.W.Frag} {mg : Str → Option Value} {base : Heap} {N : List Str} {qual : Str} {scope : Scope} {f : Addr} {cd : Value} {A : Around} {outer : List Env} {s : Shared} {H : Hp} {E : XK} :
    RaiseX (cxOf (CX1 P w) P w K mg base N qual scope f cd A outer s H E) E := fun _ _ h => h

/-- a caught exception at a, of class cls -/
def excO (a : Addr) (cls : Value) : HO := .ext fun h => ∃ o vs, h.get? a = some o ∧ o.cls = cls ∧ o.data = .fields vs

/-- other pins that every state bears, another wish -/
abbrev Cx.guard (X : Cx) (ps : List (Addr × Obj)) (E : Value → Shared → Prop) : Cx := { X with pn := ps, xe := E }
theorem Cx.Ok.guard {X : Cx} (ok : X.Ok) (ps : List (Addr × Obj)) (E : Value → Shared → Prop) : (X.guard ps E).Ok :=
  ⟨ok.mod, ok.kind, ok.glob, ok.blt, ok.above, ok.inj, ok.has, ok.cab, ok.hd, ok.frames, ok.stk, ok.exf, ok.bs, ok.bsz, ok.noex, ok.exfs, ok.funs, ok.frf⟩
theorem Cx.Ok.unguard {X : Cx} {ps : List (Addr × Obj)} {E : Value → Shared → Prop} (ok : (X.guard ps E).Ok) : X.Ok :=
  ⟨ok.mod, ok.kind, ok.glob, ok.blt, ok.above, ok.inj, ok.has, ok.cab, ok.hd, ok.frames, ok.stk, ok.exf, ok.bs, ok.bsz, ok.noex, ok.exfs, ok.funs, ok.frf⟩
/-- within an except suite -/
abbrev Cx.marked (X : Cx) (a : Addr) : Cx := { X with A := X.A.mark (some (.ref a)), calm := false, xe := fun _ _ => False }
theorem Cx.Ok.marked {X : Cx} (ok : X.Ok) (a : Addr) : (X.marked a).Ok :=
  ⟨ok.mod, ok.kind, ok.glob, ok.blt, ok.above, ok.inj, ok.has, ok.cab, (fun z => nomatch z), ok.frames, ok.stk, ok.exf, ok.bs, ok.bsz, ok.noex, ok.exfs, ok.funs, ok.frf⟩
section
variable {X : Cx} {pins : List (Addr × Obj)} {σ : St} {H : Hp} {s : Shared} {E : Value → Shared → Prop} {a : Addr}
theorem Inv.guard (I : Inv X pins σ H s) (E : Value → Shared → Prop) : Inv (X.guard (X.pn ++ pins) E) [] σ H s := ⟨I.ok.guard _ E, I.os, I.bare, I.base, I.loc, I.cell, I.free, I.freeC, fun p hp => I.pin p (by simpa using hp), I.hok, I.len⟩
theorem Inv.unguard {ps : List (Addr × Obj)} (I : Inv (X.guard (X.pn ++ pins) E) ps σ H s) : Inv X pins σ H s := ⟨I.ok.unguard, I.os, I.bare, I.base, I.loc, I.cell, I.free, I.freeC, fun p hp => I.pin p (List.mem_append_left _ hp), I.hok, I.len⟩
theorem Inv.marked (I : Inv X pins σ H s) (a : Addr) : Inv (X.marked a) pins σ H s := ⟨I.ok.marked a, I.os, I.bare, I.base, I.loc, I.cell, I.free, I.freeC, I.pin, I.hok, I.len⟩
theorem Inv.unmarked (I : Inv (X.marked a) pins σ H s) (ok : X.Ok) : Inv X pins σ H s := ⟨ok, I.os, I.bare, I.base, I.loc, I.cell, I.free, I.freeC, I.pin, I.hok, I.len⟩
end

/-- the ends of a suite, behind which the name in slot i is gone -/
def Ends.gone (D : Ends) (i : Nat) : Ends := { nx := fun σ H => D.nx (σ.set i none) H, rt := D.rt, bk := fun σ H => D.bk (σ.set i none) H, ct := fun σ H => D.ct (σ.set i none) H }
/-- what is wanted of an exception that the suite ts (its name in slot i of n) catches; QC: the clause's class -/
def xTry (K : PySem.W.Frag) (QC : Value) (n i : Nat) (ts : TS) (D : Ends) : XK := fun cls _ H => PySem.W.exmOne K cls QC = some true ∧ ∀ a, H a = none → ts (D.gone i) ((List.replicate n none).set i (some (.ref a))) (upd H a (excO a cls))
def tTry (K : PySem.W.Frag) (QC : Value) (n i : Nat) (tb : XK → TS) (ts : TS) : TS := fun D σ H => tb (xTry K QC n i ts D) D σ H

section
variable {X : Cx} {QC : Value} {x n : Str} {i : Nat} {body suite : List Stmt} {b₀ : Stmt} {tb : XK → TS} {ts : TS} {np hpos pos : Pos}
theorem ps_try (hst : X.stack = X.env :: X.outer) (hfr : X.env.frame = some X.env.locals) (hg : Gl X x) (hm : X.mg x = some QC) (hN : X.N.Nodup) (hi : X.N[i]? = some n) (hL : X.env.scope.names.lookup n = some .local)
    (hb : ∀ (ps : List (Addr × Obj)) (xe : Value → Shared → Prop) (E : XK), Passes (CX1 X.prog X.w) (X.guard ps xe) E → PSs (X.guard ps xe) body (tb E))
    (hs : ∀ a, PSs (X.marked a) (b₀ :: suite) ts) (hd : (x == ("__debug__" : Str)) = false := by decide) :
    PS X (.Try body [.ExceptHandler (some (.Name x np)) (some n) (b₀ :: suite) hpos] [] [] pos) (tTry X.K QC X.N.length i tb ts) := by
  intro pins s σ H D I h
  have okX := I.ok
  refine wpAny_Try_except ?_
  have P1 : Passes (CX1 X.prog X.w) (X.guard (X.pn ++ pins) fun e s₁ => wpAny (model X.prog X.w) X.A (noteFrame e X.env) (fun _ s₂ => wpAny (model X.prog X.w) X.A (setFlight e none) (fun _ s₃ => wpAny (model X.prog X.w) X.A (handleBy e X.env [.ExceptHandler (some (.Name x np)) (some n) (b₀ :: suite) hpos]) (SP X pins D) X.xe s₃) X.xe s₂) X.xe s₁) (xTry X.K QC X.N.length i ts D) := by
    intro ps' σ' H1 s1 e s2 I1 hx
    obtain ⟨a, cls, a0, B, H2, rfl, F, hm1, q⟩ := hx
    have J1 : Inv X pins σ' H1 s1 := I1.unguard
    have fl : Heap.FlyingW B (X.env :: X.outer) a cls a0 s2.heap := hst ▸ F.fly
    show wpAny (model X.prog X.w) X.A (noteFrame (.ref a) X.env) _ X.xe s2
    refine wpAny_looks_onW (by rw [okX.frames, hst]) hfr fl fun h3 held3 us3 => ?_
    refine wpAny_landsW held3 fun h4 fl4 us4 => ?_
    have J4 : Inv X pins σ' H2 { s2 with heap := h4 } := fly_inv J1 F fl4.1 (us3.trans us4)
    refine wpAny_handleBy_cons (codeAny_handlers_test ?_) (by intro q; cases q)
    refine ld_glob (X := X.marked a) (J4.marked a) hg hm ?_ hd
    obtain ⟨ob, hob, hcl⟩ := fl4.there
    have LT : PySem.W.Looks (model X.prog X.w) h4 (typeOf (.ref a)) cls := hcl ▸ (PySem.W.Looks.ld hob).andThen PySem.W.Looks.now
    refine (PySem.W.exm_one (K := X.K) J4.kIn LT hm1).here ?_
    show codeAny (model X.prog X.w) (X.A.mark (some (.ref a))) (.handlers (.ref a) [.ExceptHandler none (some n) (b₀ :: suite) hpos] X.env) _ _
    refine codeAny_handlers_suite_as ?_
    refine lands_againW fl4 fun h5 fl5 us5 => ?_
    have us : s2.heap.UpToSlots h5 := (us3.trans us4).trans us5
    obtain ⟨oe, vs, hoe, hoc, hod, _⟩ := fl5.first
    have na : H2 a = none := F.out
    have J5 : Inv X pins (List.replicate X.N.length none) (upd H2 a (excO a cls)) { s2 with heap := h5 } := by
      have u := F.un' fl5.1 us
      have k0 := F.hok' fl5.1
      refine Inv.weak (σ := σ') (J1.call' (s' := { s2 with heap := h5 }) (ch := []) F.os ⟨u.keep, u.slot, fun b o e m hx => ?_, u.there, fun b xs e => ?_, fun b o v e => ?_, fun b p e => ?_⟩ (fun b u' e => ?_) F.bare fun b hb => absurd hb (by simp)) (by rw [List.length_replicate]; exact J1.len.symm) fun j v e => ?_
      · have : b ≠ a := fun z => by rw [z, F.new] at e; cases e
        rw [upd_ne this]; exact u.free b o e m hx
      · have e1 := u.tups b xs e
        rw [upd_ne (ne_of_none e1 na)]; exact e1
      · have e1 := u.frzs b o v e
        rw [upd_ne (ne_of_none e1 na)]; exact e1
      · obtain ⟨more, e1⟩ := u.tbls b p e
        exact ⟨more, by rw [upd_ne (ne_of_none e1 na)]; exact e1⟩
      · by_cases hba : b = a
        · subst hba
          rw [upd_same] at e
          cases e
          exact ⟨⟨oe, vs, hoe, hoc, hod⟩, ⟨oe, hoe⟩, fun h1 h2 ⟨o, ws, e1, e2, e3⟩ k => ⟨o, ws, k o e1, e2, e3⟩⟩
        · rw [upd_ne hba] at e
          refine (k0 b u' e).stay (fun c v _ q => q) (fun c q => ?_) fun c xs q => ?_
          · rw [upd_ne (ne_of_none q na)]; exact q
          · rw [upd_ne (ne_of_none q na)]; exact q
      · rw [List.getElem?_replicate] at e
        split at e <;> cases e
    refine store_ok (X := X.marked a) (v := .ref a) (i := i) (J5.marked a) hN hi (.inl hL) rfl (fun s6 I6 => ?_) (.inr hL)
    refine wpAny_mono (hs a pins s6 _ _ (D.gone i) I6 (q a na)) (fun f s7 h7 => ?_) fun _ _ z => z.elim
    have fin : ∀ {σ7 : St} {H7 : Hp} {R : Unit → Shared → Prop}, Inv (X.marked a) pins σ7 H7 s7 → (∀ s8, Inv X pins (σ7.set i none) H7 s8 → R () s8) → wpAny (model X.prog X.w) X.A (do bindName X.env n .none; unbindBehindTheSuite X.env n hpos) R X.xe s7 := by
      intro σ7 H7 R I7 hq
      have J7 : Inv X pins σ7 H7 s7 := I7.unmarked okX
      refine wpAny_bind (wpAny_bindName (store_ok J7 hN hi (.inl hL) (v := .non) (u := .none) rfl (fun s8 I8 => ?_) (.inr hL)))
      unfold unbindBehindTheSuite
      refine wpAny_onRaise ?_
      obtain ⟨m, hn, hl⟩ := id I8.loc
      have hiσ : i < σ7.length := by rw [J7.len]; exact (List.getElem?_eq_some_iff.mp hi).1
      obtain ⟨u, ru, lk⟩ := hl i n .non hi (by rw [List.getElem?_set_self hiσ]) (.inl hL)
      have hmn : m n = some u := by
        rcases lk with ⟨_, z⟩ | ⟨k, _⟩
        · exact z
        · have hL' : X.env.kindOf n = some .local := hL
          rcases k with k | k <;> (rw [hL'] at k; cases k)
      have hcls : (X.env.scope.kind == .class || (X.env.scope.kind == .module && X.env.locals != X.env.globals)) = false := by rw [okX.kind]; rfl
      refine wpAny_unbindName_local (m := m) hL hn hmn hcls fun h9 u9 hn9 sb9 => hq _ ?_
      obtain ⟨oL, _, _, hoL, _⟩ := id hn
      have I9 : Inv X pins ((σ7.set i (some .non)).set i none) H7 { s8 with heap := h9 } := by
        have neL : ∀ b o, X.s₀.heap.get? b = some o → b ≠ X.env.locals := fun b o e => Nat.ne_of_lt (Nat.lt_of_lt_of_le (Heap.lt_size e) okX.above)
        refine ⟨okX, I8.os, I8.bare, ⟨fun b o e n' hb hx' => ?_, fun b o e n' hb hx' => ?_, I8.base.free, fun b o e hx' => ?_, I8.base.tups, I8.base.frzs, I8.base.tbls⟩, ⟨_, hn9, fun j y v' e1 e2 e3 => ?_⟩, fun y c e => ?_, I8.free, I8.freeC, fun p hp => ?_, fun b ob e => ?_, by simpa using I8.len⟩
        · exact (sb9.2 b (neL b o e)).trans (I8.base.keep b o e n' hb hx')
        · obtain ⟨sl, z⟩ := I8.base.slot b o e n' hb hx'
          exact ⟨sl, (sb9.2 b (neL b o e)).trans z⟩
        · obtain ⟨o', z⟩ := I8.base.there b o e hx'
          exact ⟨o', (sb9.2 b (neL b o e)).trans z⟩
        · have hj : j ≠ i := fun z => by
            subst z
            rw [List.getElem?_set_self (by simpa using hiσ)] at e2
            cases e2
          rw [List.getElem?_set_ne (Ne.symm hj)] at e2
          obtain ⟨u', r', q'⟩ := hl j y v' e1 e2 e3
          refine ⟨u', r', ?_⟩
          rcases q' with ⟨k, z⟩ | ⟨k, c, z, y'⟩
          · refine .inl ⟨k, ?_⟩
            have ny : y ≠ n := fun z => hj (nodup_ix hN e1 (z ▸ hi))
            simp [ny, z]
          · exact .inr ⟨k, c, z, y'.sameBut sb9 (I8.cne y c z)⟩
        · obtain ⟨v, z⟩ := I8.cell y c e
          exact ⟨v, z.sameBut sb9 (I8.cne y c e)⟩
        · obtain ⟨e, n', ne, nf, d⟩ := I8.pin p hp
          exact ⟨(sb9.2 p.1 ne).trans e, n', ne, nf, d⟩
        · refine (I8.hok b ob e).stay (fun c v hc q' => (sb9.2 c ?_).trans q') (fun _ q' => q') fun _ _ q' => q'
          intro z
          have z' := I8.free
          rcases hc with y | y
          · rw [← z, y, e] at z'; cases z'
          · rw [← z, y] at z'; cases z'
      rw [List.set_set] at I9
      exact I9
    cases f with
    | next =>
      obtain ⟨σ7, H7, I7, q7⟩ := h7
      exact fin I7 fun s8 I8 => ⟨_, H7, I8, q7⟩
    | brk =>
      obtain ⟨σ7, H7, I7, q7⟩ := h7
      exact fin I7 fun s8 I8 => ⟨_, H7, I8, q7⟩
    | cont =>
      obtain ⟨σ7, H7, I7, q7⟩ := h7
      exact fin I7 fun s8 I8 => ⟨_, H7, I8, q7⟩
    | ret v =>
      obtain ⟨v', σ7, H7, I7, r7, q7⟩ := h7
      exact fin I7 fun s8 I8 => ⟨v', _, H7, I8, r7, q7⟩
  have back : ∀ {f : Flow} {s' : Shared} {E : Value → Shared → Prop}, SP (X.guard (X.pn ++ pins) E) [] D f s' → SP X pins D f s' := fun {f s' E} q => by
    cases f with
    | next => obtain ⟨σ', H', J, z⟩ := q; exact ⟨σ', H', J.unguard, z⟩
    | brk => obtain ⟨σ', H', J, z⟩ := q; exact ⟨σ', H', J.unguard, z⟩
    | cont => obtain ⟨σ', H', J, z⟩ := q; exact ⟨σ', H', J.unguard, z⟩
    | ret u => obtain ⟨v, σ', H', J, r, z⟩ := q; exact ⟨v, σ', H', J.unguard, r, z⟩
  refine wpAny_mono (hb (X.pn ++ pins) _ _ P1 [] s σ H D (I.guard _) h) (fun f s' q => ?_) fun _ _ z => z
  have q' := back q
  cases f with
  | next => exact wpAny_execs_nil q'
  | brk => exact q'
  | cont => exact q'
  | ret u => exact q'
end
end L2


namespace L2
open PySem PySem.Spec PyProof.Rows

inductive Dt where
  | non | bl (b : Bool) | int (i : Int) | str (x : Str) | lst (ds : List Dt) | tup (ds : List Dt)

mutual
def Rep (K : PySem.W.Frag) (H : Hp) : Dt → V → Prop
  | .non, v => v = .non
  | .bl b, v => v = .bl b
  | .int i, v => v = .int i
  | .str x, v => v = .str x
  | .lst ds, v => ∃ a xs, v = .ref a ∧ SqL K H a xs ∧ Reps K H ds xs
  | .tup ds, v => ∃ a xs, v = .ref a ∧ SqT K H a xs ∧ Reps K H ds xs
def Reps (K : PySem.W.Frag) (H : Hp) : List Dt → List V → Prop
  | [], xs => xs = []
  | d :: ds, xs => ∃ x r, xs = x :: r ∧ Rep K H d x ∧ Reps K H ds r
end
mutual
def Dt.dep : Dt → Nat
  | .non => 0
  | .bl _ => 0
  | .int _ => 0
  | .str _ => 0
  | .lst ds => Dt.deps ds + 1
  | .tup ds => Dt.deps ds + 1
def Dt.deps : List Dt → Nat
  | [] => 0
  | d :: ds => max (Dt.dep d) (Dt.deps ds)
end
mutual
theorem Rep.same {K : PySem.W.Frag} {H H' : Hp} (e : Same H H') : ∀ {d : Dt} {v : V}, Rep K H d v → Rep K H' d v
  | .non, _, h => by unfold Rep at h ⊢; exact h
  | .bl _, _, h => by unfold Rep at h ⊢; exact h
  | .int _, _, h => by unfold Rep at h ⊢; exact h
  | .str _, _, h => by unfold Rep at h ⊢; exact h
  | .lst ds, _, h => by
    unfold Rep at h ⊢
    obtain ⟨a, xs, rfl, q, r⟩ := h
    exact ⟨a, xs, rfl, e.seq q, Reps.same e r⟩
  | .tup ds, _, h => by
    unfold Rep at h ⊢
    obtain ⟨a, xs, rfl, q, r⟩ := h
    exact ⟨a, xs, rfl, e.tup q, Reps.same e r⟩
theorem Reps.same {K : PySem.W.Frag} {H H' : Hp} (e : Same H H') : ∀ {ds : List Dt} {vs : List V}, Reps K H ds vs → Reps K H' ds vs
  | [], _, h => by unfold Reps at h ⊢; exact h
  | d :: ds, _, h => by
    unfold Reps at h ⊢
    obtain ⟨x, r, rfl, q, t⟩ := h
    exact ⟨x, r, rfl, Rep.same e q, Reps.same e t⟩
end
theorem Reps.length {K : PySem.W.Frag} {H : Hp} : ∀ {ds : List Dt} {vs : List V}, Reps K H ds vs → vs.length = ds.length
  | [], _, h => by unfold Reps at h; rw [h]; rfl
  | d :: ds, _, h => by
    unfold Reps at h
    obtain ⟨x, r, rfl, q, t⟩ := h
    rw [List.length_cons, List.length_cons, Reps.length t]

theorem all_true (n : Nat) : (List.range n).all (fun _ => true) = true := by simp

section
variable {X : Cx} {pins : List (Addr × Obj)} {σ : St} {H : Hp} {s : Shared}
mutual
theorem rep_eq (I : Inv X pins σ H s) : ∀ (d : Dt) {x y : V} {u v : Value} {A : Around}, Rep X.K H d x → Rep X.K H d y → RelV x u → RelV y v → A.units + d.dep < cLine → SeqAt.EqAt A s u v true
  | .non, x, y, u, v, A, hx, hy, rx, ry, _ => by
    unfold Rep at hx hy; subst hx; subst hy; cases rx; cases ry; exact SeqAt.EqAt.same _
  | .bl b, x, y, u, v, A, hx, hy, rx, ry, _ => by
    unfold Rep at hx hy; subst hx; subst hy; cases rx; cases ry; exact SeqAt.EqAt.same _
  | .int i, x, y, u, v, A, hx, hy, rx, ry, _ => by
    unfold Rep at hx hy; subst hx; subst hy
    obtain ⟨t, rfl⟩ := rx; obtain ⟨t', rfl⟩ := ry
    have := SeqAt.EqAt.int_int (A := A) (s := s) i t i t'
    rwa [beq_self_eq_true] at this
  | .str z, x, y, u, v, A, hx, hy, rx, ry, _ => by
    unfold Rep at hx hy; subst hx; subst hy
    obtain ⟨t, rfl⟩ := rx; obtain ⟨t', rfl⟩ := ry
    have := SeqAt.EqAt.str_str (A := A) (s := s) z t z t'
    rwa [beq_self_eq_true] at this
  | .lst ds, x, y, u, v, A, hx, hy, rx, ry, hu => by
    unfold Rep at hx hy
    obtain ⟨a, xs, rfl, qa, ra⟩ := hx
    obtain ⟨b, ys, rfl, qb, rb⟩ := hy
    cases rx; cases ry
    by_cases hab : a = b
    · subst hab; exact SeqAt.EqAt.same _
    · obtain ⟨its, r1, p1, _⟩ := I.list qa
      obtain ⟨its2, r2, p2, _⟩ := I.list qb
      have hu' : A.units + (Dt.deps ds + 1) < cLine := hu
      have l1 : its.length = ds.length := by rw [← r1.length, ra.length]
      have l2 : its2.length = ds.length := by rw [← r2.length, rb.length]
      refine SeqAt.EqAt.of_refs hab ?_
      have := SeqAt.RcAt.lists (A := A) (e := fun _ => true) p1.isList p2.isList (by simp [l1, l2]) (by omega) fun j h1 h2 => by
        have := reps_eq I ds (A := A.in1) ra rb r1 r2 (by show A.units + 1 + Dt.deps ds < cLine; omega) j (by simpa using h1) (by simpa using h2)
        simpa using this
      rwa [all_true] at this
  | .tup ds, x, y, u, v, A, hx, hy, rx, ry, hu => by
    unfold Rep at hx hy
    obtain ⟨a, xs, rfl, qa, ra⟩ := hx
    obtain ⟨b, ys, rfl, qb, rb⟩ := hy
    cases rx; cases ry
    by_cases hab : a = b
    · subst hab; exact SeqAt.EqAt.same _
    · obtain ⟨its, r1, p1, _⟩ := I.tuple qa
      obtain ⟨its2, r2, p2, _⟩ := I.tuple qb
      have hu' : A.units + (Dt.deps ds + 1) < cLine := hu
      have l1 : its.length = ds.length := by rw [← r1.length, ra.length]
      have l2 : its2.length = ds.length := by rw [← r2.length, rb.length]
      refine SeqAt.EqAt.of_refs hab ?_
      have := SeqAt.RcAt.tuples (A := A) (e := fun _ => true) (show s.heap.IsTuple a its.toArray from p1) (show s.heap.IsTuple b its2.toArray from p2) (by omega) fun j h1 h2 => by
        have := reps_eq I ds (A := A.in1) ra rb r1 r2 (by show A.units + 1 + Dt.deps ds < cLine; omega) j (by simpa using h1) (by simpa using h2)
        simpa using this
      have e : (its.toArray.size == its2.toArray.size) = true := by simp [l1, l2]
      rwa [all_true, e, Bool.and_self] at this
theorem reps_eq (I : Inv X pins σ H s) : ∀ (ds : List Dt) {xs ys : List V} {us vs : List Value} {A : Around}, Reps X.K H ds xs → Reps X.K H ds ys → Vals xs us → Vals ys vs → A.units + Dt.deps ds < cLine →
    ∀ (j : Nat) (h1 : j < us.length) (h2 : j < vs.length), SeqAt.EqAt A s us[j] vs[j] true
  | [], xs, ys, us, vs, A, hx, hy, rx, ry, _, j, h1, h2 => by
    unfold Reps at hx; subst hx; cases rx; simp at h1
  | d :: ds, xs, ys, us, vs, A, hx, hy, rx, ry, hu, j, h1, h2 => by
    unfold Reps at hx hy
    obtain ⟨x, r, rfl, q, t⟩ := hx
    obtain ⟨x', r', rfl, q', t'⟩ := hy
    cases rx with
    | cons rx rxs =>
      cases ry with
      | cons ry rys =>
        have hu' : A.units + max (Dt.dep d) (Dt.deps ds) < cLine := hu
        cases j with
        | zero => exact rep_eq I d q q' rx ry (by omega)
        | succ j => exact reps_eq I ds t t' rxs rys (by omega) j (by simpa using h1) (by simpa using h2)
end
end

section
variable {X : Cx}
/-- x == y, both hold the same -/
def rEqD (X : Cx) : R2 := fun x y H Q => X.A.units + 64 < cLine ∧ ∃ d : Dt, d.dep ≤ 60 ∧ Rep X.K H d x ∧ Rep X.K H d y ∧ Q (.bl true) H
theorem op_eqD : OpR X (compareOp .Eq) (rEqD X) := by
  intro pins s σ H x y u v Q I rx ry h
  obtain ⟨hu, d, hd, hx, hy, q⟩ := h
  have fin : EP X pins σ Q (.bool true) s := ⟨.bl true, H, I, rfl, q⟩
  show wpAny (model X.prog X.w) X.A (richCompare .Eq u v) (EP X pins σ Q) X.xe s
  have rc : SeqAt.RcAt X.A s u v true := by
    cases d with
    | non => unfold Rep at hx hy; subst hx; subst hy; cases rx; cases ry; exact SeqAt.RcAt.none_none
    | bl b =>
      unfold Rep at hx hy; subst hx; subst hy; cases rx; cases ry
      have := SeqAt.RcAt.bool_bool (A := X.A) (s := s) b b
      rwa [beq_self_eq_true] at this
    | int i =>
      unfold Rep at hx hy; subst hx; subst hy
      obtain ⟨t, rfl⟩ := rx; obtain ⟨t', rfl⟩ := ry
      have := SeqAt.RcAt.int_int (A := X.A) (s := s) i t i t'
      rwa [beq_self_eq_true] at this
    | str z =>
      unfold Rep at hx hy; subst hx; subst hy
      obtain ⟨t, rfl⟩ := rx; obtain ⟨t', rfl⟩ := ry
      have := SeqAt.RcAt.str_str (A := X.A) (s := s) z t z t'
      rwa [beq_self_eq_true] at this
    | lst ds =>
      unfold Rep at hx hy
      obtain ⟨a, xs, rfl, qa, ra⟩ := hx
      obtain ⟨b, ys, rfl, qb, rb⟩ := hy
      cases rx; cases ry
      obtain ⟨its, r1, p1, _⟩ := I.list qa
      obtain ⟨its2, r2, p2, _⟩ := I.list qb
      have hd' : Dt.deps ds + 1 ≤ 60 := hd
      have l1 : its.length = ds.length := by rw [← r1.length, ra.length]
      have l2 : its2.length = ds.length := by rw [← r2.length, rb.length]
      have := SeqAt.RcAt.lists (A := X.A) (e := fun _ => true) p1.isList p2.isList (by simp [l1, l2]) (by omega) fun j h1 h2 => by
        have := reps_eq I ds (A := X.A.in1) ra rb r1 r2 (by show X.A.units + 1 + Dt.deps ds < cLine; omega) j (by simpa using h1) (by simpa using h2)
        simpa using this
      rwa [all_true] at this
    | tup ds =>
      unfold Rep at hx hy
      obtain ⟨a, xs, rfl, qa, ra⟩ := hx
      obtain ⟨b, ys, rfl, qb, rb⟩ := hy
      cases rx; cases ry
      obtain ⟨its, r1, p1, _⟩ := I.tuple qa
      obtain ⟨its2, r2, p2, _⟩ := I.tuple qb
      have hd' : Dt.deps ds + 1 ≤ 60 := hd
      have l1 : its.length = ds.length := by rw [← r1.length, ra.length]
      have l2 : its2.length = ds.length := by rw [← r2.length, rb.length]
      have := SeqAt.RcAt.tuples (A := X.A) (e := fun _ => true) (show s.heap.IsTuple a its.toArray from p1) (show s.heap.IsTuple b its2.toArray from p2) (by omega) fun j h1 h2 => by
        have := reps_eq I ds (A := X.A.in1) ra rb r1 r2 (by show X.A.units + 1 + Dt.deps ds < cLine; omega) j (by simpa using h1) (by simpa using h2)
        simpa using this
      have e : (its.toArray.size == its2.toArray.size) = true := by simp [l1, l2]
      rwa [all_true, e, Bool.and_self] at this
  exact rc X.prog X.w X.xe _ fin
/-- x != y: both hold the same, or a list against the empty one -/
def rNeD (X : Cx) : R2 := fun x y H Q => X.A.units + 64 < cLine ∧ ((∃ d : Dt, d.dep ≤ 60 ∧ Rep X.K H d x ∧ Rep X.K H d y ∧ Q (.bl false) H) ∨
  ∃ a b xs, x = .ref a ∧ y = .ref b ∧ SqL X.K H a xs ∧ SqL X.K H b [] ∧ Q (.bl (!xs.isEmpty)) H)
theorem op_neD : OpR X (compareOp .NotEq) (rNeD X) := by
  intro pins s σ H x y u v Q I rx ry h
  obtain ⟨hu, h⟩ := h
  show wpAny (model X.prog X.w) X.A (richCompare .NotEq u v) (EP X pins σ Q) X.xe s
  rcases h with ⟨d, hd, hx, hy, q⟩ | ⟨a, b, xs, rfl, rfl, qa, qb, q⟩
  · have fin : EP X pins σ Q (.bool false) s := ⟨.bl false, H, I, rfl, q⟩
    have rc : SeqAt.RcNeAt X.A s u v false := by
      cases d with
      | non => unfold Rep at hx hy; subst hx; subst hy; cases rx; cases ry; exact SeqAt.RcNeAt.none_none
      | bl b =>
        unfold Rep at hx hy; subst hx; subst hy; cases rx; cases ry
        have := SeqAt.RcNeAt.bool_bool (A := X.A) (s := s) b b
        rwa [beq_self_eq_true] at this
      | int i =>
        unfold Rep at hx hy; subst hx; subst hy
        obtain ⟨t, rfl⟩ := rx; obtain ⟨t', rfl⟩ := ry
        have := SeqAt.RcNeAt.int_int (A := X.A) (s := s) i t i t'
        rwa [beq_self_eq_true] at this
      | str z =>
        unfold Rep at hx hy; subst hx; subst hy
        obtain ⟨t, rfl⟩ := rx; obtain ⟨t', rfl⟩ := ry
        have := SeqAt.RcNeAt.str_str (A := X.A) (s := s) z t z t'
        rwa [beq_self_eq_true] at this
      | lst ds =>
        unfold Rep at hx hy
        obtain ⟨a, xs, rfl, qa, ra⟩ := hx
        obtain ⟨b, ys, rfl, qb, rb⟩ := hy
        cases rx; cases ry
        obtain ⟨its, r1, p1, _⟩ := I.list qa
        obtain ⟨its2, r2, p2, _⟩ := I.list qb
        have hd' : Dt.deps ds + 1 ≤ 60 := hd
        have l1 : its.length = ds.length := by rw [← r1.length, ra.length]
        have l2 : its2.length = ds.length := by rw [← r2.length, rb.length]
        have := SeqAt.RcNeAt.lists (A := X.A) (e := fun _ => true) p1.isList p2.isList (by simp [l1, l2]) (by omega) fun j h1 h2 => by
          have := reps_eq I ds (A := X.A.in1) ra rb r1 r2 (by show X.A.units + 1 + Dt.deps ds < cLine; omega) j (by simpa using h1) (by simpa using h2)
          simpa using this
        rwa [all_true] at this
      | tup ds =>
        unfold Rep at hx hy
        obtain ⟨a, xs, rfl, qa, ra⟩ := hx
        obtain ⟨b, ys, rfl, qb, rb⟩ := hy
        cases rx; cases ry
        obtain ⟨its, r1, p1, _⟩ := I.tuple qa
        obtain ⟨its2, r2, p2, _⟩ := I.tuple qb
        have hd' : Dt.deps ds + 1 ≤ 60 := hd
        have l1 : its.length = ds.length := by rw [← r1.length, ra.length]
        have l2 : its2.length = ds.length := by rw [← r2.length, rb.length]
        have := SeqAt.RcNeAt.tuples (A := X.A) (e := fun _ => true) (show s.heap.IsTuple a its.toArray from p1) (show s.heap.IsTuple b its2.toArray from p2) (by omega) fun j h1 h2 => by
          have := reps_eq I ds (A := X.A.in1) ra rb r1 r2 (by show X.A.units + 1 + Dt.deps ds < cLine; omega) j (by simpa using h1) (by simpa using h2)
          simpa using this
        have e : (its.toArray.size == its2.toArray.size) = true := by simp [l1, l2]
        rwa [all_true, e, Bool.and_self] at this
    exact rc X.prog X.w X.xe _ fin
  · cases rx; cases ry
    have fin : EP X pins σ Q (.bool (!xs.isEmpty)) s := ⟨.bl _, H, I, rfl, q⟩
    obtain ⟨its, r1, p1, _⟩ := I.list qa
    obtain ⟨its2, r2, p2, _⟩ := I.list qb
    cases r2
    cases xs with
    | nil =>
      cases r1
      have := SeqAt.RcNeAt.lists (A := X.A) (e := fun _ => true) p1.isList p2.isList rfl (by omega) fun j h1 h2 => absurd h1 (by simp)
      exact this X.prog X.w X.xe _ fin
    | cons x xs =>
      have hne : ((its.toArray.size) != (([] : List Value).toArray.size)) = true := by
        have := r1.length
        simp only [List.length_cons] at this
        simp
        intro z
        rw [z] at this
        simp at this
      exact (SeqAt.RcNeAt.lists_lengths (A := X.A) p1.isList p2.isList hne (by omega)) X.prog X.w X.xe _ fin

theorem count_eqU {x : V} : ∀ {xs : List V} {us : List Value}, Vals xs us → xs.all flatV = true → us.countP (eqU x) = xs.countP fun y => eqV y x
  | _, _, .nil, _ => rfl
  | y :: ys, u :: us, .cons r t, h => by
    simp only [List.all_cons, Bool.and_eq_true] at h
    rw [List.countP_cons, List.countP_cons, count_eqU t h.2, eqU_of r h.1]
def rCount (K : PySem.W.Frag) : V → List V → Hp → VK → Prop := fun x vs H Q => ∃ a xs v, x = .ref a ∧ vs = [v] ∧ SqL K H a xs ∧ xs.all flatV = true ∧ flatV v = true ∧ Q (.int (xs.countP fun y => eqV y v : Nat)) H
theorem mt_count : MtR X "list.count" (rCount X.K) := by
  intro pins s σ H x vs v us Q I rx rv h
  obtain ⟨a, xs, w, rfl, rfl, hq, hf, hw, q⟩ := h
  cases rx
  obtain ⟨u, rfl, ru⟩ := rv.one
  obtain ⟨its, r, ⟨⟨cls, dd, data, sl⟩, n, e, hc, hdd, hd⟩, _⟩ := I.list hq
  simp only at hc hdd hd
  subst hc; subst hdd; subst hd
  refine call_meets F.slot_list_count ⟨_, e, rfl⟩ F.entry_list_count (F.args_list_count_2 _ _) (SeqAt.list_countAt a its.toArray n none sl u (eqU w)) ⟨e, fun y hy => mem_eqAt ru hw r hf y (by simpa using hy), ?_⟩
  refine ⟨.int _, H, I.tok _, ⟨_, rfl⟩, ?_⟩
  have := count_eqU (x := w) r hf
  simp only [this]
  exact q
end
end L2


namespace L2
open PySem PySem.Spec PyProof.Rows

section
variable {X : Cx}
theorem eqU_get {x : V} {xs : List V} {us : List Value} (r : Vals xs us) (hf : xs.all flatV = true) (j : Nat) (h1 : j < us.length) (h2 : j < xs.length) : eqU x us[j] = eqV xs[j] x := by
  obtain ⟨u, e, ru⟩ := r.get (i := j) (x := xs[j]) (List.getElem?_eq_getElem h2)
  rw [List.getElem?_eq_getElem h1] at e
  cases e
  exact eqU_of ru (List.all_eq_true.mp hf _ (List.getElem_mem h2))
def rIndex (K : PySem.W.Frag) : V → List V → Hp → VK → Prop := fun x vs H Q => ∃ a xs v, x = .ref a ∧ vs = [v] ∧ SqL K H a xs ∧ xs.all flatV = true ∧ flatV v = true ∧ ∃ (j : Nat) (hj : j < xs.length), eqV xs[j] v = true ∧ (∀ (m : Nat) (hm : m < xs.length), m < j → eqV xs[m] v = false) ∧ Q (.int (j : Nat)) H
theorem mt_index : MtR X "list.index" (rIndex X.K) := by
  intro pins s σ H x vs v us Q I rx rv h
  obtain ⟨a, xs, w, rfl, rfl, hq, hf, hw, j, hj, hit, hno, q⟩ := h
  cases rx
  obtain ⟨u, rfl, ru⟩ := rv.one
  obtain ⟨its, r, ⟨⟨cls, dd, data, sl⟩, n, e, hc, hdd, hd⟩, hz⟩ := I.list hq
  simp only at hc hdd hd
  subst hc; subst hdd; subst hd
  have hl := r.length
  have hs := sizeLine_eq
  refine call_meets F.slot_list_index ⟨_, e, rfl⟩ F.entry_list_index (F.args_list_index_2 _ _) (SeqAt.list_indexAt a its.toArray n none sl u (eqU w) j (by simp; omega) (by omega) ?_ fun m hm hmj => ?_) ⟨e, fun y hy => mem_eqAt ru hw r hf y (by simpa using hy), ?_⟩
  · have := eqU_get (x := w) r hf j (by omega) hj
    simpa [this] using hit
  · have hm' : m < its.length := by simpa using hm
    have := eqU_get (x := w) r hf m hm' (by omega)
    simpa [this] using hno m (by omega) hmj
  · exact ⟨.int _, H, I.tok _, ⟨_, rfl⟩, q⟩

end

/-- what the top has written of an own class of errors -/
structure ExcIs (K : PySem.W.Frag) (C : Addr) : Prop where
  ga : PySem.W.findIn K (.ref C) "__getattribute__" = some (some (.builtin "BaseException.__getattribute__"))
  gt : PySem.W.findIn K (.ref C) "__getattr__" = some none
  cl : PySem.W.findIn K (.ref C) "__class__" = some (some (.builtin "object.__class__"))
  mb : PySem.W.mroIn K C (.type "BaseException") = some true
  mo : PySem.W.mroIn K C (.type "object") = some true

section
open PySem.W
variable {K : Frag} {prog : Program} {w : World} {A : Around} {E : Value → Shared → Prop} {h : Heap} {g : Array GenState} {d : Drawn} {t : Nat} {os : OsState} {a C : Addr} {o : Obj}

theorem exc_class_get {R : Result → Shared → Prop} (KX : K.In h) (F : ExcIs K C) (hx : h.get? a = some o) (hc : o.cls = .ref C) (hq : R (.ok (.ret (.ref C))) ⟨h, g, d, t, os⟩) :
    codeAny (model prog w) A (.call (.builtin "getset_descriptor.__get__") ⟨[.builtin "object.__class__", .ref a, .ref C], []⟩) R ⟨h, g, d, t, os⟩ := by
  have hT5 : (⟨h, g, d, t, os⟩ : Shared).TypeIs (.builtin "object.__class__") "getset_descriptor" := PySem.F.typeOf_object_class
  have LS : ∀ {A : Around} {Q : Bool → Shared → Prop} {E : Value → Shared → Prop}, Q true ⟨h, g, d, t, os⟩ → wpAny (model prog w) A (isSubtype (.ref C) (.type (".".intercalate ("object.__class__".cutAt '.').dropLast))) Q E ⟨h, g, d, t, os⟩ := fun {A Q E} q => by
    rw [PySem.F.owner_object_class]
    exact (looks_mroIn KX F.mo).at q
  refine codeAny_call_builtin PySem.F.slot_gs_get.plain PySem.F.entry_gs_get (PySem.F.slot_gs_get.check _ _ _ _ _ _ _ _ hT5 (PySem.F.args_gs_get _ _ _) ?_)
  repeat (any_goals (first | assumption | (with_reducible refine wpAny_loadPart_at hx ?_; rw [hc]) | with_reducible refine LS ?_ | wp_step))
  refine ⟨Code.quiet_builtin _ (by decide +kernel), codeAny_builtin PySem.F.entry_object_class ?_⟩
  repeat (any_goals (first | assumption | (with_reducible refine wpAny_loadPart_at hx ?_; rw [hc]) | wp_step))

theorem exc_class_entry {tk : Tok} {Q : Fin → Shared → Prop} (KX : K.In h) (F : ExcIs K C) (hx : h.get? a = some o) (hc : o.cls = .ref C) (hq : Q (.done (.ret (.ref C))) ⟨h, g, d, t, os⟩) :
    wpAny (model prog w) A (Builtin.«object.__getattribute__» ⟨[.ref a, .str "__class__" tk], []⟩) Q E ⟨h, g, d, t, os⟩ := by
  have hT5 : (⟨h, g, d, t, os⟩ : Shared).TypeIs (.builtin "object.__class__") "getset_descriptor" := PySem.F.typeOf_object_class
  have f5 := PySem.F.typeOf_object_class
  have f6 := PySem.F.slot_gs_get.lookup
  have f7 := PySem.F.slot_gs_set.lookup
  have LF : ∀ {A : Around} {Q : Option Value → Shared → Prop} {E : Value → Shared → Prop}, Q (some (.builtin "object.__class__")) ⟨h, g, d, t, os⟩ → wpAny (model prog w) A (typeLookup (.ref C) "__class__") Q E ⟨h, g, d, t, os⟩ := fun {A Q E} q => (looks_findIn KX F.cl).at q
  repeat (any_goals (first | assumption | (with_reducible refine wpAny_loadPart_at hx ?_; rw [hc]) | with_reducible refine LF ?_ | wp_step))
  refine exc_class_get KX F hx hc ?_
  repeat (any_goals (first | assumption | wp_step))

theorem exc_ga_check {nv : Value} {Q : Unit → Shared → Prop} (KX : K.In h) (F : ExcIs K C) (hx : h.get? a = some o) (hc : o.cls = .ref C) (hq : Q () ⟨h, g, d, t, os⟩) :
    wpAny (model prog w) A (checkBuiltinCall "BaseException.__getattribute__" ⟨[.ref a, nv], []⟩) Q E ⟨h, g, d, t, os⟩ := by
  have hk : builtinKind "BaseException.__getattribute__" = some .slot := by decide +kernel
  have hsp : splitId "BaseException.__getattribute__" = some ("BaseException", "__getattribute__") := by decide +kernel
  have ha := PySem.F.args_bexc_ga (.ref a) nv
  have LS : ∀ {A : Around} {Q : Bool → Shared → Prop} {E : Value → Shared → Prop}, Q true ⟨h, g, d, t, os⟩ → wpAny (model prog w) A (isSubtype (.ref C) (.type "BaseException")) Q E ⟨h, g, d, t, os⟩ := fun {A Q E} q => (looks_mroIn KX F.mb).at q
  simp only [checkBuiltinCall, hk, hsp]
  refine wpAny_bind ?_
  unfold isInstance
  repeat (first | (with_reducible refine wpAny_loadPart_at hx ?_; rw [hc]) | with_reducible refine LS ?_ | wp_step)
  exact hq
theorem exc_class_call {tk : Tok} {R : Result → Shared → Prop} (KX : K.In h) (F : ExcIs K C) (hx : h.get? a = some o) (hc : o.cls = .ref C) (hq : R (.ok (.ret (.ref C))) ⟨h, g, d, t, os⟩) :
    codeAny (model prog w) A (.call (.builtin "BaseException.__getattribute__") ⟨[.ref a, .str "__class__" tk], []⟩) R ⟨h, g, d, t, os⟩ :=
  codeAny_call_builtin PySem.F.excAttr_ValueError.ga.plain PySem.F.entry_bexc_ga (exc_ga_check KX F hx hc (exc_class_entry KX F hx hc hq))

theorem exc_class_by {tk : Tok} {Q : Value → Shared → Prop} (KX : K.In h) (F : ExcIs K C) (hx : h.get? a = some o) (hc : o.cls = .ref C) (hq : Q (.ref C) ⟨h, g, d, t, os⟩) :
    wpAny (model prog w) A (getAttrBy (.ref a) (.str "__class__" tk) false) Q E ⟨h, g, d, t, os⟩ := by
  have LG : ∀ {A : Around} {Q : Option Value → Shared → Prop} {E : Value → Shared → Prop}, Q (some (.builtin "BaseException.__getattribute__")) ⟨h, g, d, t, os⟩ → wpAny (model prog w) A (typeLookup (.ref C) "__getattribute__") Q E ⟨h, g, d, t, os⟩ := fun {A Q E} q => (looks_findIn KX F.ga).at q
  have LN : ∀ {A : Around} {Q : Option Value → Shared → Prop} {E : Value → Shared → Prop}, Q none ⟨h, g, d, t, os⟩ → wpAny (model prog w) A (typeLookup (.ref C) "__getattr__") Q E ⟨h, g, d, t, os⟩ := fun {A Q E} q => (looks_findIn KX F.gt).at q
  have hx2 : (Value.builtin "BaseException.__getattribute__" == Value.builtin "object.__getattribute__") = false := by decide +kernel
  have hx1 : (onTheHeap (Value.ref C) && Value.builtin "BaseException.__getattribute__" == Value.builtin "object.__getattribute__") = false := by rw [hx2]; rfl
  have f3 := PySem.F.excAttr_ValueError.ga.bind (.ref a)
  repeat (any_goals (first | assumption | (with_reducible refine wpAny_loadPart_at hx ?_; rw [hc]) | with_reducible refine LG ?_ | with_reducible refine LN ?_ | wp_step))
  refine exc_class_call KX F hx hc ?_
  repeat (any_goals (first | assumption | wp_step))

theorem exc_class_attr {Q : Option Value → Shared → Prop} (KX : K.In h) (F : ExcIs K C) (hx : h.get? a = some o) (hc : o.cls = .ref C) (hq : Q (some (.ref C)) ⟨h, g, d, t + 1, os⟩) :
    wpAny (model prog w) A (getAttr? (.ref a) "__class__") Q E ⟨h, g, d, t, os⟩ := by
  unfold getAttr? getAttrBy?
  repeat (any_goals (first | assumption | with_reducible apply exc_class_by KX F hx hc | wp_step))

/-- the object of a caught exception -/
def ExcOb (a : Addr) (C : Addr) (h : Heap) : Prop := ∃ o vs, h.get? a = some o ∧ o.cls = .ref C ∧ o.data = .fields vs
theorem kitx_exc (F : ExcIs K C) : KitX K (.ref a) (.ref C) (ExcOb a C) where
  ty := fun M h _ ⟨o, vs, h1, h2, _⟩ => h2 ▸ (Looks.ld h1).andThen .now
  it := fun M h KX _ => by
    obtain ⟨cd, hc, _⟩ := Option.bind_eq_some_iff.mp F.mo
    unfold clsIn at hc
    split at hc
    · rename_i c' d' cd' sl' ho
      intro A' Q' E' s' k q
      unfold isType loadHead
      exact wpAny_bind (wpAny_loadPart (k _ _ (KX _ _ ho)) (wpAny_pure q))
    · cases hc
  ne := fun h tp dd its n sl KX htp => by
    obtain ⟨cd, hc, _⟩ := Option.bind_eq_some_iff.mp F.mo
    refine Bool.eq_false_iff.mpr fun q => ?_
    have e : C = tp := Value.ref.inj (beq_iff_eq.mp q)
    subst e
    unfold clsIn at hc
    split at hc
    · rename_i c' d' cd' sl' ho
      have z := (KX _ _ ho).symm.trans htp
      cases z
    · cases hc
  ca := fun {prog w A E Q s} KX ⟨o, vs, h1, h2, _⟩ k => by
    obtain ⟨h, g, d, t, os⟩ := s
    exact exc_class_attr KX F h1 h2 k
end

section
variable {X : Cx}
/-- a class as a value -/
def clsV : V → Value
  | .ref a => .ref a
  | .ty n => .type n
  | _ => .none
/-- the type of a value, that of a caught exception too -/
inductive TyV (K : PySem.W.Frag) (H : Hp) : V → Value → Prop where
  | of {x : V} {t : Value} (h : TyOf K H x t) : TyV K H x t
  | exc {a C : Addr} (e : H a = some (excO a (.ref C))) (F : ExcIs K C) : TyV K H (.ref a) (.ref C)
theorem call_isinstance : CallR X (.builtin "isinstance") (fun xs H Q => ∃ x c t b, xs = [x, c] ∧ ((∃ a, c = .ref a) ∨ ∃ n, c = .ty n) ∧ TyV X.K H x t ∧ PySem.W.kitOne X.K t (clsV c) = some b ∧ Q (.bl b) H) := by
  intro pins s σ H xs us Q I r h
  obtain ⟨x, c, t, b, rfl, hc, ht, hk, q⟩ := h
  obtain ⟨u, cv, rfl, ru, rc⟩ := vals2 r
  have ec : cv = clsV c := by
    rcases hc with ⟨a, rfl⟩ | ⟨n, rfl⟩ <;> exact rc
  subst ec
  have fin : ∀ tk, EP X pins σ Q (.bool b) { s with toks := tk } := fun tk => ⟨.bl b, H, I.tok _, rfl, q⟩
  cases ht with
  | of ht => exact isinst_ok I ru ht hk fin
  | @exc a C e F =>
    cases (show u = Value.ref a from ru)
    obtain ⟨⟨o, vs, h1, h2, h3⟩, _⟩ := (show ObjOk X.prog X.w H s.heap a (excO a (.ref C)) from I.hok a _ e)
    exact PySem.W.kia_one (kitx_exc F) I.kIn ⟨o, vs, h1, h2, h3⟩ hk (fun z => nomatch z) fin
end
end L2


namespace L2
open PySem PySem.Spec PyProof.Rows

/-- a def of the top: its object, how it binds, its name -/
structure Def (K : PySem.W.Frag) (mg : Str → Option Value) (x : Str) (st : Stmt) (f : Addr) (fd : FuncData) (ps : List Str) : Prop where
  fn : Fun K x x st f fd
  bd : Binds K fd ps []
  mg : mg x = some (.ref f)
section
variable {X : Cx} {CX : CXT} {k : Nat} {f : Addr} {fd : FuncData} {ps : List Str} {sp : Sp} {E : XK} {x : Str} {st : Stmt} {p pos : Pos} {e : Expr} {es : List Expr} {t : TA}
theorem pe_callD (D : Def X.K X.mg x st f fd ps) (F : FnOk X.prog X.w X.K X.mg X.base CX k f fd ps sp) (hr : Room k X.A) (hx : Passes CX X E) (ha : PA X (e :: es) t) (hg : Gl X x := by rfl)
    (hdb : (x == ("__debug__" : Str)) = false := by decide) (he : starEach (e :: es) X.env = (false, eval e X.env) :: starEach es X.env := by rfl) (hpl : (backTo pos (starEach es X.env)).any (·.1) = false := by rfl) :
    PE X (.Call (.Name x p) (e :: es) [] pos) (tCall sp [] E t) := pe_call F hr hg D.mg D.fn.kp D.bd .nil hx ha hdb he hpl
end

section
variable {K : PySem.W.Frag} {ix : List (Option Nat)} {te : TE} {σ : St} {H1 : Hp} {Q : Addr → Hp → Prop}
theorem comp_val_map {fv : Nat → V} {n i₀ : Nat} (f : Nat → V) (hz : n ≤ sizeLine)
    (hs : ∀ (i : Nat) (H : Hp) (R : VK), i < n → Same H1 H → (∀ H6, Same H H6 → R (f i) H6) → te ((capt ix σ).set i₀ (some (fv i))) H R)
    (hd : ∀ D H, H1 D = none → Same H1 H → H D = some (.lst ((List.range n).map f)) → Q D H) : CompW (Itv fv n) ix (gName i₀) tYes te σ H1 Q := by
  intro D hD
  refine ⟨fun i m ys H => m = n - i ∧ i ≤ n ∧ Same H1 H ∧ ys = (List.range i).map f, ⟨n, by simp, Nat.zero_le _, Same.new hD _, by simp⟩, ?_⟩
  rintro i m ys H ⟨rfl, hi, sm, p⟩ hDl
  by_cases hlt : i < n
  · refine .inr ⟨hlt, fun x H3 y => ?_⟩
    obtain ⟨e, y⟩ := y
    subst e; subst y
    show te ((capt ix σ).set i₀ (some (fv i))) _ _
    refine hs i _ _ hlt sm fun H6 r1 => ?_
    refine ⟨r1 _ _ hDl, ?_, n - (i + 1), by omega, rfl, hlt, (sm.trans r1).put hD _, ?_⟩
    · rw [p, List.length_map, List.length_range]; omega
    · rw [p, List.range_succ, List.map_append]; rfl
  · have e : i = n := by omega
    subst e
    exact .inl ⟨Nat.le_refl _, hd D H hD sm (by rw [hDl, p])⟩
end
end L2


namespace L2
open PySem PySem.Spec PyProof.Rows

def Gv (t : TE) (σ : St) (H : Hp) (v : V) : Prop := ∀ R : VK, (∀ H', Same H H' → R v H') → t σ H R
def Gt (t : TT) (σ : St) (H : Hp) (b : Bool) : Prop := ∀ R : Bool → Hp → Prop, (∀ H', Same H H' → R b H') → t σ H R
def Ga (t : TA) (σ : St) (H : Hp) (vs : List V) : Prop := ∀ R : List V → Hp → Prop, (∀ H', Same H H' → R vs H') → t σ H R
section
variable {σ : St} {H : Hp} {ta tb tc te : TE} {t u : TT} {tt : TA} {v x y : V} {p q b : Bool} {i j k : Int}
theorem gv_var {n : Nat} (h : σ[n]? = some (some v)) : Gv (tVar n) σ H v := fun R r => ⟨v, h, r H (Same.refl H)⟩
theorem gv_c : Gv (tC v) σ H v := fun R r => r H (Same.refl H)
theorem gv_to {R : VK} (h : Gv te σ H v) (r : ∀ H', Same H H' → R v H') : te σ H R := h R r
theorem gv_eq (h : Gv te σ H x) (e : x = y) : Gv te σ H y := e ▸ h
theorem gt_eq (h : Gt t σ H p) (e : p = q) : Gt t σ H q := e ▸ h
theorem gt_not (h : Gt t σ H b) : Gt (tNot t) σ H (!b) := fun R r => h _ fun H' s => r H' s
theorem gt_or (h : Gt t σ H p) (g : p = false → ∀ H', Same H H' → Gt u σ H' q) : Gt (tOr t u) σ H (p || q) := fun R r => h _ fun H' s => by
  cases p with
  | true => rw [if_pos rfl]; exact r H' s
  | false => rw [if_neg Bool.false_ne_true]; exact g rfl H' s _ fun H2 s2 => r H2 (s.trans s2)
theorem gt_test (h : Gv te σ H (.bl b)) : Gt (tTest te) σ H b := fun R r => h _ fun H' s => ⟨b, rfl, r H' s⟩
theorem gt_tB (h : Gv te σ H (.bl b)) : Gt (tB te) σ H b := fun R r => h _ fun H' s => ⟨b, rfl, r H' s⟩
theorem gv_and (h : Gv ta σ H (.bl p)) (g : p = true → ∀ H', Same H H' → Gv tb σ H' (.bl q)) : Gv (tAndV ta tb) σ H (.bl (p && q)) := fun R r => h _ fun H' s => by
  refine ⟨p, rfl, ?_⟩
  cases p with
  | true => rw [if_pos rfl]; exact g rfl H' s _ fun H2 s2 => r H2 (s.trans s2)
  | false => rw [if_neg Bool.false_ne_true]; exact r H' s
theorem gv_isN (h : Gv ta σ H v) : Gv (tIsN ta) σ H (.bl (decide (v = .non))) := fun R r => h _ fun H' s => r H' s
/-- two ints -/
theorem gv_ii {f : Int → Int → V} (h : Gv ta σ H (.int i)) (g : ∀ H', Same H H' → Gv tb σ H' (.int j)) : Gv (tOp (rI0 f) ta tb) σ H (f i j) := fun R r => h _ fun H' s => g H' s _ fun H2 s2 => ⟨i, j, rfl, rfl, r H2 (s.trans s2)⟩
theorem gv_iic {C : Int → Int → Prop} {f : Int → Int → V} (h : Gv ta σ H (.int i)) (g : ∀ H', Same H H' → Gv tb σ H' (.int j)) (hc : C i j) : Gv (tOp (rI C f) ta tb) σ H (f i j) := fun R r => h _ fun H' s => g H' s _ fun H2 s2 => ⟨i, j, rfl, rfl, hc, r H2 (s.trans s2)⟩
theorem gv_eqI (h : Gv ta σ H x) (g : ∀ H', Same H H' → Gv tb σ H' y) (hs : scal x y = true) : Gv (tOp rEq ta tb) σ H (.bl (decide (x = y))) := fun R r => h _ fun H' s => g H' s _ fun H2 s2 => ⟨hs, r H2 (s.trans s2)⟩
theorem gv_neI (h : Gv ta σ H x) (g : ∀ H', Same H H' → Gv tb σ H' y) (hs : scal x y = true) : Gv (tOp rNe ta tb) σ H (.bl (!decide (x = y))) := fun R r => h _ fun H' s => g H' s _ fun H2 s2 => ⟨hs, r H2 (s.trans s2)⟩
theorem gv_chain {f g : Int → Int → Bool} (h1 : Gv ta σ H (.int i)) (h2 : ∀ H', Same H H' → Gv tb σ H' (.int j)) (h3 : ∀ H', Same H H' → Gv tc σ H' (.int k)) : Gv (tChain (rI0 fun i j => .bl (f i j)) (rI0 fun i j => .bl (g i j)) ta tb tc) σ H (.bl (f i j && g j k)) :=
  fun R r => h1 _ fun H1 s1 => h2 H1 s1 _ fun H2 s2 => ⟨i, j, rfl, rfl, f i j, rfl, by
    cases e : f i j with
    | true => rw [if_pos rfl]; rw [e] at r; exact h3 H2 (s1.trans s2) _ fun H3 s3 => ⟨j, k, rfl, rfl, by rw [Bool.true_and] at r; exact r H3 ((s1.trans s2).trans s3)⟩
    | false => rw [if_neg Bool.false_ne_true]; rw [e, Bool.false_and] at r; exact r H2 (s1.trans s2)⟩
theorem ga_nil : Ga tNil σ H [] := fun R r => r H (Same.refl H)
theorem ga_cons {vs : List V} (h : Gv te σ H v) (g : ∀ H', Same H H' → Ga tt σ H' vs) : Ga (tCons te tt) σ H (v :: vs) := fun R r => h _ fun H' s => g H' s _ fun H2 s2 => r H2 (s.trans s2)
theorem ga_1 (h : Gv te σ H v) : Ga (tCons te tNil) σ H [v] := ga_cons h fun _ _ => ga_nil
/-- len -/
theorem gv_len {K : PySem.W.Frag} {n : Nat} (h : Ga tt σ H [v]) (hl : ∀ H', Same H H' → LenV K v H' n) : Gv (tCB (fun xs H Q => ∃ x n, xs = [x] ∧ LenV K x H n ∧ Q (.int n) H) tt) σ H (.int n) := fun R r => h _ fun H' s => ⟨v, n, rfl, hl H' s, r H' s⟩
theorem gv_lenS {K : PySem.W.Frag} {y : Str} (h : Ga tt σ H [.str y]) (hz : y.length ≤ sizeLine) : Gv (tCB (fun xs H Q => ∃ x n, xs = [x] ∧ LenV K x H n ∧ Q (.int n) H) tt) σ H (.int y.length) := gv_len h fun _ _ => ⟨hz, rfl⟩
theorem gv_lenL {K : PySem.W.Frag} {a : Addr} {xs : List V} (h : Ga tt σ H [.ref a]) (hq : SqL K H a xs) : Gv (tCB (fun xs H Q => ∃ x n, xs = [x] ∧ LenV K x H n ∧ Q (.int n) H) tt) σ H (.int xs.length) := gv_len h fun _ s => .inl ⟨xs, s.seq hq, rfl⟩
/-- a call by its promise -/
theorem gv_call {sp : Sp} {E : XK} {vs : List V} (h : Ga tt σ H vs) (hc : ∀ H' (R : VK), Same H H' → (∀ H2, Same H' H2 → R v H2) → sp (vs ++ []) H' R E) : Gv (tCall sp [] E tt) σ H v := fun R r => h _ fun H' s => hc H' R s fun H2 s2 => r H2 (s.trans s2)
/-- an item -/
theorem gv_ixL {K : PySem.W.Frag} {a : Addr} {xs : List V} (h : Gv ta σ H (.ref a)) (g : ∀ H', Same H H' → Gv tb σ H' (.int i)) (hq : SqL K H a xs) (hi : atI xs i = some v) : Gv (tOp (rIxL K) ta tb) σ H v := fun R r => h _ fun H' s => g H' s _ fun H2 s2 => ⟨a, xs, i, v, rfl, rfl, (s.trans s2).seq hq, hi, r H2 (s.trans s2)⟩
theorem gv_addS {x y : Str} (h : Gv ta σ H (.str x)) (g : ∀ H', Same H H' → Gv tb σ H' (.str y)) (hz : x.length + y.length ≤ sizeLine) : Gv (tOp (fun x y H Q => ∃ i j, x = .str i ∧ y = .str j ∧ i.length + j.length ≤ sizeLine ∧ Q (.str (i ++ j)) H) ta tb) σ H (.str (x ++ y)) := fun R r => h _ fun H' s => g H' s _ fun H2 s2 => ⟨x, y, rfl, rfl, hz, r H2 (s.trans s2)⟩
/-- a if t else b -/
theorem gv_if (h : Gt t σ H p) (g1 : p = true → ∀ H', Same H H' → Gv ta σ H' v) (g2 : p = false → ∀ H', Same H H' → Gv tb σ H' v) : Gv (tIf t ta tb) σ H v := fun R r => h _ fun H' s => by
  cases p with
  | true => rw [if_pos rfl]; exact g1 rfl H' s _ fun H2 s2 => r H2 (s.trans s2)
  | false => rw [if_neg Bool.false_ne_true]; exact g2 rfl H' s _ fun H2 s2 => r H2 (s.trans s2)

variable {D : Ends} {ts us : TS} {n : Nat}
theorem rs_seq (h : ts { D with nx := us D } σ H) : tSeq ts us D σ H := h
theorem rs_if2 (h : Gt t σ H b) (k1 : b = true → ∀ H', Same H H' → ts D σ H') (k2 : b = false → ∀ H', Same H H' → us D σ H') : tIfS t ts us D σ H := h _ fun H' s => by
  cases b with
  | true => rw [if_pos rfl]; exact k1 rfl H' s
  | false => rw [if_neg Bool.false_ne_true]; exact k2 rfl H' s
theorem rs_set (h : Gv te σ H v) (k : ∀ H', Same H H' → D.nx (σ.set n (some v)) H') : tAsg te (gName n) D σ H := h _ k
theorem rs_ret (h : Gv te σ H v) (k : ∀ H', Same H H' → D.rt v H') : tRet te D σ H := h _ k
variable {ix : List (Option Nat)} {g : TG} {tf : TT} {R : VK}
theorem tcompR {jj : Int} (h : Ga tt σ H [.int jj]) (h1 : -(2 ^ 62) ≤ jj) (h2 : jj < 2 ^ 62) (k : ∀ H', Same H H' → CompW (Itr 0 jj.toNat) ix g tf te σ H' fun D' H2 => R (.ref D') H2) : tComp (iRng1 tt) ix g tf te σ H R := h _ fun H' s => ⟨jj, rfl, h1, h2, k H' s⟩
theorem tcompL {K : PySem.W.Frag} {a : Addr} {xs : List V} (h : Gv ta σ H (.ref a)) (hq : SqL K H a xs) (k : ∀ H', Same H H' → SqL K H' a xs → CompW (Itl K a) ix g tf te σ H' fun D' H2 => R (.ref D') H2) : tComp (iList K ta) ix g tf te σ H R := h _ fun H' s => ⟨a, rfl, ⟨xs, s.seq hq⟩, k H' s (s.seq hq)⟩
theorem rs_ret' (h : te σ H D.rt) : tRet te D σ H := h
theorem rs_scL {K : PySem.W.Frag} {a : Addr} {xs : List V} (h : Gv ta σ H (.ref a)) (hq : SqL K H a xs) (k : ∀ H', Same H H' → SqL K H' a xs → CompW (Itl K a) ix g tf te σ H' fun D' H2 => D.nx (σ.set n (some (.ref D'))) H2) : tSetComp n (iList K ta) ix g tf te D σ H := h _ fun H' s => ⟨a, rfl, ⟨xs, s.seq hq⟩, k H' s (s.seq hq)⟩
/-- a call whose promise is shown for the wish at hand -/
theorem tcall {sp : Sp} {E : XK} {vs : List V} (h : Ga tt σ H vs) (k : ∀ H', Same H H' → sp (vs ++ []) H' R E) : tCall sp [] E tt σ H R := h _ fun H' s => k H' s
theorem rs_drop' (h : te σ H fun _ H1 => D.nx σ H1) : tDrop te D σ H := h

theorem rq_if (h : Gt t σ H b) (k1 : b = true → ∀ H', Same H H' → ts { D with nx := us D } σ H') (k2 : b = false → ∀ H', Same H H' → us D σ H') : tSeq (tIfS t ts tNext) us D σ H := rs_if2 h k1 k2
theorem rq_set (h : Gv te σ H v) (k : ∀ H', Same H H' → us D (σ.set n (some v)) H') : tSeq (tAsg te (gName n)) us D σ H := h _ k
theorem rq_set' (h : te σ H fun x H1 => us D (σ.set n (some x)) H1) : tSeq (tAsg te (gName n)) us D σ H := h
theorem rq_drop' (h : te σ H fun _ H1 => us D σ H1) : tSeq (tDrop te) us D σ H := h
end
end L2


namespace L2
open PySem PySem.Spec PyProof.Rows
section
variable {X : Cx} (K : PySem.W.Frag)
theorem kLen (h : X.K = K := by rfl) : CallR X (.builtin "len") (fun xs H Q => ∃ x n, xs = [x] ∧ LenV K x H n ∧ Q (.int n) H) := h ▸ call_len
theorem kAll (h : X.K = K := by rfl) (hc : X.calm = true := by rfl) : CallR X (.builtin "all") (fun xs H Q => ∃ (a : Addr) (bs : List Bool), xs = [.ref a] ∧ SqL K H a (bs.map V.bl) ∧ Q (.bl (bs.all fun b => b)) H) := by
  subst h
  intro pins s σ H xs us Q I r q
  exact call_all pins s σ H xs us Q I r ⟨hc, q⟩
theorem kIsinstance (h : X.K = K := by rfl) : CallR X (.builtin "isinstance") (fun xs H Q => ∃ x c t b, xs = [x, c] ∧ ((∃ a, c = .ref a) ∨ ∃ n, c = .ty n) ∧ TyV K H x t ∧ PySem.W.kitOne K t (clsV c) = some b ∧ Q (.bl b) H) := h ▸ call_isinstance
theorem kIxL (h : X.K = K := by rfl) : IxR X (rIxL K) := h ▸ ix_list
theorem kIxT (h : X.K = K := by rfl) : IxR X (rIxT K) := h ▸ ix_tup
theorem kJoin (h : X.K = K := by rfl) : MtR X "str.join" (rJoin K) := h ▸ mt_join
theorem kCount (h : X.K = K := by rfl) : MtR X "list.count" (rCount K) := h ▸ mt_count
theorem kIndex (h : X.K = K := by rfl) : MtR X "list.index" (rIndex K) := h ▸ mt_index
theorem kEqD (hu : X.A.units + 64 < cLine) (h : X.K = K := by rfl) : OpR X (compareOp .Eq) (fun x y H Q => ∃ d : Dt, d.dep ≤ 60 ∧ Rep K H d x ∧ Rep K H d y ∧ Q (.bl true) H) := by
  subst h
  intro pins s σ H x y u v Q I rx ry q
  exact op_eqD pins s σ H x y u v Q I rx ry ⟨hu, q⟩
theorem kNeD (hu : X.A.units + 64 < cLine) (h : X.K = K := by rfl) : OpR X (compareOp .NotEq) (fun x y H Q => (∃ d : Dt, d.dep ≤ 60 ∧ Rep K H d x ∧ Rep K H d y ∧ Q (.bl false) H) ∨
    ∃ a b xs, x = .ref a ∧ y = .ref b ∧ SqL K H a xs ∧ SqL K H b [] ∧ Q (.bl (!xs.isEmpty)) H) := by
  subst h
  intro pins s σ H x y u v Q I rx ry q
  exact op_neD pins s σ H x y u v Q I rx ry ⟨hu, q⟩
variable {tg l : Expr} {tl ta te to : TE} {t : TA}
theorem kiList (hl : PE X l tl) (h : X.K = K := by rfl) : PI X tg l (iList K tl) := h ▸ pi_list hl
theorem kiTup (hl : PE X l tl) (h : X.K = K := by rfl) : PI X tg l (iTup K tl) := h ▸ pi_tup hl
theorem kTruth {a : Expr} (ha : PE X a ta) (he : ∀ whole, isTrue a X.env whole = (do let v ← whole; standAt a.pos; holding [v] (truthy v))) (h : X.K = K := by rfl) :
    PT X a (fun σ H Q => ta σ H fun x H' => ∃ k, TruV K x H' k ∧ Q k H') := h ▸ pt_truth ha he
theorem kgTup {es : List Expr} {k : Nat} {t : TGs} {n : Nat} {pos : Pos} (h1 : PGs X es t) (h : X.K = K := by rfl) (hc : X.calm = true := by rfl)
    (hn : (assignEach es X.env).length = n := by rfl) (hst : (assignEach es X.env).findIdx? (·.1) = none := by rfl) : PG X (.Tuple es k pos) (gTup K n t) := h ▸ pg_tup hc h1 hn hst
theorem kBm {o e : Expr} {es : List Expr} {name : Str} {apos cpos : Pos} {T id : String} {r : V → List V → Hp → VK → Prop} (pa : PlainAttrs T) (slot : Slot T name id) (hty : typeOf (.builtin id) = pure (.type "method_descriptor")) (hm : MtR X id r) (ho : PE X o to) (ha : PA X (e :: es) t) (h : X.K = K := by rfl)
    (hbase : attributeBase o name X.env (eval o X.env) = eval o X.env := by rfl)
    (hfew : ((backTo cpos (starEach (e :: es) X.env)).all (fun x => !x.1) && (backToKw cpos (keywordEach [] X.env)).all (fun x => x.1.isSome)
      && decide ((e :: es).length + ([] : List Keyword).length + (if ([] : List Keyword).isEmpty then 0 else 1) < 30)) = true := by rfl)
    (hline : (apos.endLine == cpos.line) = true := by rfl) (hs : starEach (e :: es) X.env = (false, eval e X.env) :: starEach es X.env := by rfl) (hplain : (backTo cpos (starEach es X.env)).any (·.1) = false := by rfl) :
    PE X (.Call (.Attribute o name apos) (e :: es) [] cpos) (tBM K T r to t) := h ▸ pe_bm pa slot hty hm ho ha hbase hfew hline hs hplain
end
end L2


namespace L2
open PySem PySem.Spec PyProof.Rows
def Gn (t : TE) (σ : St) (H : Hp) (xs : List V) : Prop := ∀ R : VK, (∀ p H', H p = none → Same H H' → H' p = some (.lst xs) → R (.ref p) H') → t σ H R
section
variable {σ : St} {H : Hp} {ta tb te : TE} {tt : TA} {xs ys : List V} {K : PySem.W.Frag} {a : Addr} {lo hi : Option Int}
theorem gn_to {R : VK} (h : Gn te σ H xs) (r : ∀ p H', H p = none → Same H H' → H' p = some (.lst xs) → R (.ref p) H') : te σ H R := h R r
theorem tcb1 {r : List V → Hp → VK → Prop} {R : VK} (h : te σ H fun x H1 => r [x] H1 R) : tCB r (tCons te tNil) σ H R := h
theorem gn_eq (h : Gn te σ H xs) (e : xs = ys) : Gn te σ H ys := e ▸ h
theorem gn_lst (h : Ga tt σ H xs) (hz : xs.length ≤ sizeLine) : Gn (tLst tt) σ H xs := fun R r => h _ fun H' s => ⟨hz, fun p hp => r p _ (s.free hp) (s.trans (Same.new hp _)) upd_same⟩
theorem gn_cat (ha : Gv ta σ H (.ref a)) (hl : H a = some (.lst xs)) (hb : ∀ H', Same H H' → Gn tb σ H' ys) (hz : xs.length + ys.length ≤ sizeLine) : Gn (tOp rCat ta tb) σ H (xs ++ ys) :=
  fun R r => ha _ fun H1 s1 => hb H1 s1 _ fun p H2 hp s2 hpl => ⟨a, p, xs, ys, rfl, rfl, s2 _ _ (s1 _ _ hl), hpl, hz, fun q hq => r q _ ((s1.trans s2).free hq) ((s1.trans s2).trans (Same.new hq _)) upd_same⟩
theorem gn_catN (ha : Gn ta σ H xs) (hb : ∀ H', Same H H' → Gn tb σ H' ys) (hz : xs.length + ys.length ≤ sizeLine) : Gn (tOp rCat ta tb) σ H (xs ++ ys) :=
  fun R r => ha _ fun a H1 ha s1 hl => hb H1 s1 _ fun p H2 hp s2 hpl => ⟨a, p, xs, ys, rfl, rfl, s2 _ _ hl, hpl, hz, fun q hq => r q _ ((s1.trans s2).free hq) ((s1.trans s2).trans (Same.new hq _)) upd_same⟩
/-- an item of a new list -/
theorem gv_ixN {i : Int} {v : V} (ha : Gn ta σ H xs) (hb : ∀ H', Same H H' → Gv tb σ H' (.int i)) (hi : atI xs i = some v) : Gv (tOp (rIxL K) ta tb) σ H v :=
  fun R r => ha _ fun a H1 ha s1 hl => hb H1 s1 _ fun H2 s2 => ⟨a, xs, i, v, rfl, rfl, SqL.of (s2 _ _ hl), hi, r H2 (s1.trans s2)⟩
/-- isinstance of a caught exception -/
theorem gv_isiE {C : Addr} {c : V} {b : Bool} (h : Ga tt σ H [.ref a, c]) (hc : (∃ x, c = .ref x) ∨ ∃ n, c = .ty n) (e : H a = some (excO a (.ref C))) (F : ExcIs K C) (hk : PySem.W.kitOne K (.ref C) (clsV c) = some b) :
    Gv (tCB (fun xs H Q => ∃ x c t b, xs = [x, c] ∧ ((∃ a, c = .ref a) ∨ ∃ n, c = .ty n) ∧ TyV K H x t ∧ PySem.W.kitOne K t (clsV c) = some b ∧ Q (.bl b) H) tt) σ H (.bl b) := fun R r => h _ fun H' s => ⟨_, c, _, b, rfl, hc, .exc (s _ _ e) F, hk, r H' s⟩
/-- list.count of bools, list.index -/
theorem gv_count {v : V} (ha : Gv ta σ H (.ref a)) (hq : SqL K H a xs) (hb : ∀ H', Same H H' → Ga tt σ H' [v]) (hf : xs.all flatV = true) (hv : flatV v = true) : Gv (tBM K "list" (rCount K) ta tt) σ H (.int (xs.countP fun y => eqV y v : Nat)) :=
  fun R r => ha _ fun H1 s1 => ⟨.inl ⟨rfl, _, s1.seq hq⟩, hb H1 s1 _ fun H2 s2 => ⟨a, xs, v, rfl, rfl, (s1.trans s2).seq hq, hf, hv, r H2 (s1.trans s2)⟩⟩
theorem gv_index {v : V} {j : Nat} (ha : Gv ta σ H (.ref a)) (hq : SqL K H a xs) (hb : ∀ H', Same H H' → Ga tt σ H' [v]) (hf : xs.all flatV = true) (hv : flatV v = true) (hj : j < xs.length) (he : eqV xs[j] v = true) (hn : ∀ (m : Nat) (hm : m < xs.length), m < j → eqV xs[m] v = false) :
    Gv (tBM K "list" (rIndex K) ta tt) σ H (.int (j : Nat)) := fun R r => ha _ fun H1 s1 => ⟨.inl ⟨rfl, _, s1.seq hq⟩, hb H1 s1 _ fun H2 s2 => ⟨a, xs, v, rfl, rfl, (s1.trans s2).seq hq, hf, hv, j, hj, he, hn, r H2 (s1.trans s2)⟩⟩
end
end L2


namespace L2
open PySem PySem.Spec PyProof.Rows
theorem items_areI {prog : Program} {w : World} : ∀ {ks : List Int} {us : List Value}, Vals (ks.map V.int) us → ItemsAre (intKind prog w) ks us
  | [], _, .nil => .nil
  | k :: ks, u :: us, .cons r t => .cons (by
      obtain ⟨tk, rfl⟩ := (show ∃ tk, u = Value.int k tk from r)
      exact intKind_is _ _ _ _) (items_areI t)
section
variable {X : Cx} {pins : List (Addr × Obj)} {σ : St} {H : Hp} {s : Shared}
theorem Inv.key (I : Inv X pins σ H s) {a : Addr} {ks : List Int} (h : SqT X.K H a (ks.map V.int)) : IsTupleKey (intKind X.prog X.w) s.heap ks a := by
  obtain ⟨its, r, ⟨o, ho, hc, n, hd⟩, _⟩ := I.tuple h
  exact ⟨o, its.toArray, n, ho, hc, hd, items_areI r⟩
abbrev rv (p : Addr × List Int) : V := .ref p.1
theorem vals_refs : ∀ {ps : List (Addr × List Int)} {us : List Value}, Vals (ps.map rv) us → us = ps.map fun p => Value.ref p.1
  | [], _, .nil => rfl
  | p :: ps, u :: us, .cons r t => by
    have e : u = .ref p.1 := r
    rw [e, vals_refs t]
    rfl
theorem refs_vals : ∀ ps : List (Addr × List Int), Vals (ps.map rv) (ps.map TB.rf)
  | [] => .nil
  | p :: ps => .cons (show RelV (.ref p.1) (.ref p.1) from rfl) (refs_vals ps)
end
end L2


namespace L2
open PySem PySem.Spec PyProof.Rows
mutual
def Dt.py : Dt → PyData
  | .non => .none
  | .bl b => .bool b
  | .int i => .int i
  | .str x => .str x
  | .lst ds => .list (Dt.pys ds)
  | .tup ds => .tuple (Dt.pys ds)
def Dt.pys : List Dt → List PyData
  | [] => []
  | d :: ds => Dt.py d :: Dt.pys ds
end
section
variable {X : Cx} {pins : List (Addr × Obj)} {σ : St} {H : Hp} {s : Shared}
theorem pys_ints : ∀ ns : List Int, Dt.pys (ns.map Dt.int) = ns.map PyData.int
  | [] => rfl
  | n :: ns => by rw [List.map_cons, List.map_cons, ← pys_ints ns]; rfl
theorem reps_ints {K : PySem.W.Frag} : ∀ ns : List Int, Reps K H (ns.map Dt.int) (ns.map V.int)
  | [] => by unfold Reps; rfl
  | n :: ns => by
    rw [List.map_cons, List.map_cons]
    unfold Reps
    exact ⟨_, _, rfl, by unfold Rep; rfl, reps_ints ns⟩
end
end L2


namespace L2
open PySem PySem.Spec PyProof.Rows
section
variable {X : Cx} (K : PySem.W.Frag)
end

theorem Reps.at_ {K : PySem.W.Frag} {H : Hp} : ∀ {ds : List Dt} {vs : List V}, Reps K H ds vs → ∀ (i : Nat) (v : V), vs[i]? = some v → ∃ d, ds[i]? = some d ∧ Rep K H d v
  | [], _, r, i, v, e => by unfold Reps at r; subst r; simp at e
  | d :: ds, _, r, i, v, e => by
    unfold Reps at r
    obtain ⟨x, xs, rfl, q, t⟩ := r
    cases i with
    | zero => simp at e; subst e; exact ⟨d, rfl, q⟩
    | succ i => simpa using Reps.at_ t i v (by simpa using e)
theorem Reps.get {K : PySem.W.Frag} {H : Hp} {ds : List Dt} {vs : List V} (r : Reps K H ds vs) (i : Nat) (d : Dt) (e : ds[i]? = some d) : ∃ v, vs[i]? = some v ∧ Rep K H d v := by
  have hl := r.length
  have hi : i < vs.length := by
    have := (List.getElem?_eq_some_iff.mp e).1
    omega
  obtain ⟨d', e', q⟩ := r.at_ i vs[i] (List.getElem?_eq_getElem hi)
  rw [e] at e'
  cases e'
  exact ⟨_, List.getElem?_eq_getElem hi, q⟩
/-- tuples of ints -/
abbrev tupI (t : List Int) : Dt := .tup (t.map Dt.int)
theorem rep_int {K : PySem.W.Frag} {H : Hp} {i : Int} {v : V} (h : Rep K H (.int i) v) : v = .int i := by unfold Rep at h; exact h
theorem reps_int_vals {K : PySem.W.Frag} {H : Hp} : ∀ {t : List Int} {vs : List V}, Reps K H (t.map Dt.int) vs → vs = t.map V.int
  | [], _, r => by unfold Reps at r; exact r
  | i :: t, _, r => by
    rw [List.map_cons] at r
    unfold Reps at r
    obtain ⟨x, xs, rfl, q, t'⟩ := r
    rw [rep_int q, reps_int_vals t']
    rfl
theorem rep_tupI {K : PySem.W.Frag} {H : Hp} {t : List Int} {v : V} : Rep K H (tupI t) v ↔ ∃ a, v = .ref a ∧ SqT K H a (t.map V.int) := by
  constructor
  · intro h
    unfold tupI Rep at h
    obtain ⟨a, xs, rfl, q, r⟩ := h
    exact ⟨a, rfl, reps_int_vals r ▸ q⟩
  · rintro ⟨a, rfl, q⟩
    unfold tupI Rep
    exact ⟨a, _, rfl, q, reps_ints t⟩
section
variable {K : PySem.W.Frag} {ix : List (Option Nat)} {te : TE} {σ : St} {H1 : Hp} {Q : Addr → Hp → Prop}
end
end L2

namespace L2
open PySem PySem.Spec PyProof.Rows
section
variable {X : Cx} (K : PySem.W.Frag)
theorem kLtT (hu : X.A.units + 64 < cLine) (h : X.K = K := by rfl) : OpR X (compareOp .Lt) (rLtT K) := h ▸ op_ltT (by omega)
end
section
variable {K : PySem.W.Frag} {ix : List (Option Nat)} {te ta tb : TE} {tt : TA} {g : TG} {tf : TT} {σ : St} {H H1 : Hp} {Q : Addr → Hp → Prop} {R : VK}
theorem comp_tup_map {a : Addr} {xs : List V} {i₀ : Nat} (f : V → V) (hq : SqT K H1 a xs) (hz : xs.length ≤ sizeLine)
    (hs : ∀ (i : Nat) (x : V) (H : Hp) (R : VK), xs[i]? = some x → Same H1 H → (∀ H6, Same H H6 → R (f x) H6) → te ((capt ix σ).set i₀ (some x)) H R)
    (hd : ∀ D H, H1 D = none → Same H1 H → H D = some (.lst (xs.map f)) → Q D H) : CompW (Itt K a) ix (gName i₀) tYes te σ H1 Q := by
  intro D hD
  refine ⟨fun i m ys H => m = xs.length - i ∧ i ≤ xs.length ∧ Same H1 H ∧ ys = (xs.take i).map f, ⟨xs.length, by simp, Nat.zero_le _, Same.new hD _, by simp⟩, ?_⟩
  rintro i m ys H ⟨rfl, hi, sm, p⟩ hDl
  have q := sm.tup hq
  by_cases hlt : i < xs.length
  · refine .inr ⟨⟨xs, xs[i], q, by simp [hlt]⟩, fun x H3 y => ?_⟩
    obtain ⟨e, y⟩ := y
    subst e
    have hx := y xs q
    show te ((capt ix σ).set i₀ (some x)) _ _
    refine hs i x _ _ hx sm fun H6 r1 => ?_
    refine ⟨r1 _ _ hDl, ?_, xs.length - (i + 1), by omega, rfl, hlt, (sm.trans r1).put hD _, ?_⟩
    · rw [p, List.length_map, List.length_take]; omega
    · rw [take_map_succ f xs i x hx, p]
  · have e : i = xs.length := by omega
    subst e
    refine .inl ⟨⟨xs, q, Nat.le_refl _⟩, hd D H hD sm ?_⟩
    rw [hDl, p, List.take_length]
theorem tcompT {a : Addr} {xs : List V} (h : Gv ta σ H (.ref a)) (hq : SqT K H a xs) (k : ∀ H', Same H H' → SqT K H' a xs → CompW (Itt K a) ix g tf te σ H' fun D' H2 => R (.ref D') H2) : tComp (iTup K ta) ix g tf te σ H R := h _ fun H' s => ⟨a, rfl, ⟨xs, s.tup hq⟩, k H' s (s.tup hq)⟩
theorem tcompR2 {i j : Int} (h : Ga tt σ H [.int i, .int j]) (hb : -(2 ^ 62) ≤ i ∧ i < 2 ^ 62 ∧ -(2 ^ 62) ≤ j ∧ j < 2 ^ 62) (k : ∀ H', Same H H' → CompW (Itr i (j - i).toNat) ix g tf te σ H' fun D' H2 => R (.ref D') H2) : tComp (iRng2 tt) ix g tf te σ H R := h _ fun H' s => ⟨i, j, rfl, hb, k H' s⟩
theorem gv_lenT {a : Addr} {xs : List V} (h : Ga tt σ H [.ref a]) (hq : SqT K H a xs) : Gv (tCB (fun xs H Q => ∃ x n, xs = [x] ∧ LenV K x H n ∧ Q (.int n) H) tt) σ H (.int xs.length) := gv_len h fun _ s => .inr ⟨xs, s.tup hq, rfl⟩
theorem gv_ixT {a : Addr} {xs : List V} {i : Int} {v : V} (h : Gv ta σ H (.ref a)) (g : ∀ H', Same H H' → Gv tb σ H' (.int i)) (hq : SqT K H a xs) (hi : atI xs i = some v) : Gv (tOp (rIxT K) ta tb) σ H v := fun R r => h _ fun H' s => g H' s _ fun H2 s2 => ⟨a, xs, i, v, rfl, rfl, (s.trans s2).tup hq, hi, r H2 (s.trans s2)⟩
theorem gv_ltT {a b : Addr} {x y : List Int} (h : Gv ta σ H (.ref a)) (g : ∀ H', Same H H' → Gv tb σ H' (.ref b)) (ha : SqT K H a (x.map V.int)) (hb : SqT K H b (y.map V.int)) : Gv (tOp (rLtT K) ta tb) σ H (.bl (HT.lexLt x y)) := fun R r => h _ fun H1 s1 => g H1 s1 _ fun H2 s2 => ⟨a, b, x, y, rfl, rfl, (s1.trans s2).tup ha, (s1.trans s2).tup hb, r H2 (s1.trans s2)⟩
end
end L2

namespace L2
open PySem PySem.Spec PyProof.Rows
section
variable {prog : Program} {w : World} {A : Around} {E : Value → Shared → Prop} {s : Shared}
end
section
variable {prog : Program} {w : World} {A : Around} {E : Value → Shared → Prop} {s : Shared}
end
end L2

namespace L2
open PySem PySem.Spec PyProof.Rows
section
variable {X : Cx}
end
section
variable {K : PySem.W.Frag} {ix : List (Option Nat)} {te ta tb : TE} {tt : TA} {g : TG} {tf : TT} {σ : St} {H H1 : Hp} {Q : Addr → Hp → Prop} {R : VK}
end
section
variable {X : Cx} (K : PySem.W.Frag)
end
end L2

namespace TB
open PySem PySem.Spec
namespace SF
theorem entry_dup : entryFor table "dict.update.loop" = some Builtin.«dict.update.loop» := entryFor_of_tree (by kernel_rfl)
theorem plain_dup : plainId "dict.update.loop" = true := by decide +kernel
theorem miss_keys : typeLookup (.type "list") "keys" = pure none := am_miss_of_fast (by decide +kernel)
end SF
section
variable {prog : Program} {w : World} {K : Type} [DecidableEq K] {knd : KeyKind prog w K} {A : Around} {E : Value → Shared → Prop} {s : Shared}
theorem noKeys {a : Addr} {o : Obj} {xs : Array Value} {k : Nat} {Q : Option Value → Shared → Prop} (hx : s.heap.get? a = some o) (hc : o.cls = .type "list") (hdat : o.data = .seq xs k) (hd : o.dict = none) (hA : A.handled = none)
    (h : ∀ h' tk, (∀ b ob, s.heap.get? b = some ob → h'.get? b = some ob) → Q none { s with heap := h', toks := tk }) :
    wpAny (model prog w) A (getAttr? (.ref a) "keys") Q E s := by
  obtain ⟨c, dct, dat, sl⟩ := o
  simp only at hc hdat hd
  subst hc hdat hd
  obtain ⟨hp, g, d, tk, os⟩ := s
  have hT : ∀ tk', (⟨hp, g, d, tk', os⟩ : Shared).TypeIs (.ref a) "list" := fun _ => ⟨_, hx, rfl⟩
  have f1 := sub_AttributeError
  have f3 := F.slot_list_getattribute.lookup
  have f4 := F.slot_list_getattribute.bind (.ref a)
  have f5 := am_list_getattr_none
  unfold getAttr? getAttrBy? getAttrBy
  repeat (any_goals (first | assumption | exact hT _ | ((with_reducible show wpAny _ _ (call (Value.builtin "list.__getattribute__") _ _) _ _ _); refine call_meets F.slot_list_getattribute (hT _) am_entry_list_getattribute (F.args_list_getattribute_2 _ _) (meets_getattribute_miss_list a xs k sl "keys" _ SF.miss_keys (by decide +kernel) (by decide +kernel)) ⟨hx, hA, fun h' tk' e hx' => ?_⟩) | wp_step))
  obtain ⟨t', u', he⟩ := hx'.there
  show wpAny _ _ (getattributeRaised _ _ _ _ _ _ _) _ _ _
  unfold getattributeRaised
  repeat (any_goals (first | assumption | wp_step))
  all_goals first | exact h _ _ hx'.keeps | skip
/-- a pair (tuple, True) -/
def PairAt (h : Heap) (c a : Addr) : Prop := ∃ o n, h.get? c = some o ∧ o.cls = .type "tuple" ∧ o.data = .seq #[.ref a, .bool true] n
theorem PairAt.at_ {h h' : Heap} {c a : Addr} (x : PairAt h c a) (k : ∀ o, h.get? c = some o → h'.get? c = some o) : PairAt h' c a := by
  obtain ⟨o, n, ho, r⟩ := x
  exact ⟨o, n, k o ho, r⟩
theorem dictAt {h h' : Heap} {S : Addr} {ds : List (List K × Addr × Value)} (x : h.DictOfH (tupleKind knd) S ds) (k : ∀ o, h.get? S = some o → h'.get? S = some o) (kk : ∀ x ∈ ds, ∀ o, h.get? x.2.1 = some o → h'.get? x.2.1 = some o) : h'.DictOfH (tupleKind knd) S ds := by
  obtain ⟨o, es, ep, ho, a1, a2, a3, a4, a5⟩ := x
  exact ⟨o, es, ep, k o ho, a1, a2, a3, fun x hx => key_at (a4 x hx) (kk x hx), a5⟩
theorem atKey_stored (xs : List (List K × Addr × Value)) (k : List K) (a : Addr) (v : Value) (k' : List K) : (atKey (storedH xs k a v) k').isSome = ((atKey xs k').isSome || decide (k = k')) := by
  have some_iff : ∀ (ys : List (List K × Addr × Value)) (q : List K), (atKey ys q).isSome = ys.any fun x => decide (x.1 = q) := fun ys q => by
    unfold atKey
    rw [Option.isSome_map, Bool.eq_iff_iff, List.find?_isSome]
    simp
  rw [some_iff, some_iff]
  unfold storedH
  split
  · rename_i hs
    rw [some_iff] at hs
    rw [List.any_map]
    have e : ((fun x : List K × Addr × Value => decide (x.1 = k')) ∘ putAt k v) = fun x => decide (x.1 = k') := by
      funext x
      show decide ((putAt k v x).1 = k') = _
      unfold putAt
      split <;> rfl
    rw [e]
    by_cases q : k = k'
    · subst q; rw [hs]; simp
    · simp [q]
  · rw [List.any_append]; simp
theorem len_stored (xs : List (List K × Addr × Value)) (k : List K) (a : Addr) (v : Value) : (storedH xs k a v).length ≤ xs.length + 1 := by
  unfold storedH
  split <;> simp
variable {I : Addr} {fp wr : List Addr} {n : Nat} {P : Nat → Value → Prop} {St : Nat → Heap → Prop} {R : Result → Shared → Prop}
theorem dloop (W : Walks prog w A.in1 I fp wr n P St) (S : Addr) (hSf : S ∉ fp) {xs : List (Addr × Addr × List K)} (hn : xs.length = n) (hval : ∀ (i : Nat) (v : Value), P i v → ∃ p, xs[i]? = some p ∧ v = .ref p.1) (hw : ∀ p ∈ xs, p.1 ∉ wr ∧ p.2.1 ∉ wr)
    (hu : A.in1.units < cLine) (hz : xs.length ≤ 2000) :
    ∀ (k i : Nat) (s : Shared) (ds : List (List K × Addr × Value)), n - i = k → i ≤ n → St i s.heap → s.heap.DictOfH (tupleKind knd) S ds → (∀ p ∈ xs, PairAt s.heap p.1 p.2.1 ∧ IsTupleKey knd s.heap p.2.2 p.2.1) → ds.length ≤ i →
      (∀ q, (atKey ds q).isSome = true ↔ ∃ p ∈ xs.take i, p.2.2 = q) → (∀ x ∈ ds, ∃ p ∈ xs, x.1 = p.2.2 ∧ x.2.1 = p.2.1) →
      (∀ h' tk ds', (∀ b o, b ≠ S → b ∉ wr → s.heap.get? b = some o → h'.get? b = some o) → h'.DictOfH (tupleKind knd) S ds' → (∀ q, (atKey ds' q).isSome = true ↔ ∃ p ∈ xs, p.2.2 = q) → (∀ x ∈ ds', ∃ p ∈ xs, x.1 = p.2.2 ∧ x.2.1 = p.2.1) → R (.ok (.ret .none)) { s with heap := h', toks := tk }) →
      codeAny (model prog w) A (.builtin "dict.update.loop" ⟨[.ref S, .ref I, rawInt i, .none], []⟩) R s := by
  have hSw : S ∉ wr := fun h => hSf (W.sub _ h)
  intro k
  induction k with
  | zero =>
    intro i s ds hk hi hst hS tups hl all mem hR
    obtain rfl : i = n := by omega
    refine codeAny_builtin SF.entry_dup ?_
    rw [Around.under_plainId SF.plain_dup _]
    show wpAny _ A.in1 (pyNext (.ref I) >>= _) _ _ s
    refine wpAny_bind (W.done s _ _ hst fun h' tk hm => ?_)
    show wpAny _ A.in1 (Builtin.Dict.addKeywords S [] >>= fun _ => ret Value.none) _ _ _
    refine wpAny_bind (wpAny_pure (wpAny_pure (hR h' tk ds (fun b o _ hb e => hm b o hb e) (dictAt hS (fun o e => hm S o hSw e) fun x hx o e => ?_) ?_ mem)))
    · obtain ⟨p, hp, _, e2⟩ := mem x hx
      exact hm _ o (by rw [e2]; exact (hw p hp).2) e
    · rw [← hn, List.take_length] at all
      exact all
  | succ k ih =>
    intro i s ds hk hi hst hS tups hl all mem hR
    have hlt : i < n := by omega
    refine codeAny_builtin SF.entry_dup ?_
    rw [Around.under_plainId SF.plain_dup _]
    show wpAny _ A.in1 (pyNext (.ref I) >>= _) _ _ s
    refine wpAny_bind (W.item i s _ _ hlt hst fun v h' tk hP hst' hm => ?_)
    obtain ⟨p, hp, rfl⟩ := hval i v hP
    have hpx : p ∈ xs := List.mem_of_getElem? hp
    have hS' : h'.DictOfH (tupleKind knd) S ds := dictAt hS (fun o e => hm S o hSw e) fun x hx o e => by
      obtain ⟨p, hp, _, e2⟩ := mem x hx
      exact hm _ o (by rw [e2]; exact (hw p hp).2) e
    have tups' : ∀ q ∈ xs, PairAt h' q.1 q.2.1 ∧ IsTupleKey knd h' q.2.2 q.2.1 := fun q hq => ⟨(tups q hq).1.at_ fun o e => hm _ o (hw q hq).1 e, key_at (tups q hq).2 fun o e => hm _ o (hw q hq).2 e⟩
    obtain ⟨oc, nc, hoc, hcc, hdc⟩ := (tups' p hpx).1
    dsimp only
    refine wpAny_bind (wpAny_holding ?_)
    refine wpAny_bind (wpAny_tryCatch ?_)
    unfold Builtin.Dict.pairItems
    refine wpAny_bind (wpAny_typeOf (T := "tuple") ⟨oc, hoc, hcc⟩ ?_)
    rw [if_pos (by decide)]
    refine wpAny_bind (wpAny_seqItems hoc hdc (wpAny_pure ?_))
    show wpAny _ A.in1 (holding [Value.ref p.2.1, .bool true] (dictSet S (.ref p.2.1) (.bool true))) _ _ _
    refine wpAny_holding ?_
    refine wpAny_dictSet_heap (s := { s with heap := h', toks := tk }) (knd := tupleKind knd) (k := p.2.2) hu (tups' p hpx).2 hS' (fun h2 hS2 sb => ?_) (by rw [sizeLine_eq]; omega)
    have keep : ∀ b o, b ≠ S → h'.get? b = some o → h2.get? b = some o := fun b o hb e => (sb.2 b hb).trans e
    have ne : ∀ {c : Addr} {o : Obj}, h'.get? c = some o → o.cls = .type "tuple" → c ≠ S := fun {c o} e hc z => by
      obtain ⟨od, _, _, hod, ex, _⟩ := hS'
      rw [z, hod] at e
      cases e
      rw [ex.1] at hc
      exact absurd hc (by decide)
    have hle := len_stored ds p.2.2 p.2.1 (.bool true)
    refine wpAny_pure ⟨plainId_quiet SF.plain_dup _, ih (i + 1) _ _ (by omega) hlt (W.frame _ _ _ hst' fun b hb o e => keep b o (fun (h : b = S) => hSf (h ▸ hb)) e) hS2 (fun q hq => ?_) (by omega) (fun q => ?_) (fun x hx => ?_) fun h3 tk3 ds3 kp hS3 a3 m3 => ?_⟩
    · obtain ⟨o1, n1, e1, c1, d1⟩ := (tups' q hq).1
      refine ⟨⟨o1, n1, keep _ _ (ne e1 c1) e1, c1, d1⟩, ?_⟩
      obtain ⟨o2, i2, n2, e2, c2, r2⟩ := (tups' q hq).2
      exact ⟨o2, i2, n2, keep _ _ (ne e2 c2) e2, c2, r2⟩
    · rw [atKey_stored, Bool.or_eq_true, decide_eq_true_iff, all q]
      have htk : xs.take (i + 1) = xs.take i ++ [p] := by rw [List.take_succ, hp]; rfl
      rw [htk]
      constructor
      · rintro (⟨r, hr, e⟩ | e)
        · exact ⟨r, List.mem_append_left _ hr, e⟩
        · exact ⟨p, by simp, e⟩
      · rintro ⟨r, hr, e⟩
        rcases List.mem_append.mp hr with z | z
        · exact .inl ⟨r, z, e⟩
        · rw [List.mem_singleton.mp z] at e; exact .inr e
    · unfold storedH at hx
      split at hx
      · obtain ⟨y, hy, rfl⟩ := List.mem_map.mp hx
        obtain ⟨r, hr, e1, e2⟩ := mem y hy
        refine ⟨r, hr, ?_⟩
        unfold putAt
        split
        · exact ⟨e1, e2⟩
        · exact ⟨e1, e2⟩
      · rcases List.mem_append.mp hx with z | z
        · exact mem x z
        · rw [List.mem_singleton.mp z]; exact ⟨p, hpx, rfl, rfl⟩
    · exact hR h3 tk3 ds3 (fun b o h1 h2' e => kp b o h1 h2' (keep b o h1 (hm b o h2' e))) hS3 a3 m3
theorem call_dictP {l : Addr} {ol : Obj} {nl : Nat} {xs : List (Addr × Addr × List K)} {Q : Value → Shared → Prop} (hh : A.handled = none) (hol : s.heap.get? l = some ol) (hcl : ol.cls = .type "list") (hdl : ol.data = .seq (xs.map fun p => Value.ref p.1).toArray nl) (hdd : ol.dict = none)
    (tups : ∀ p ∈ xs, PairAt s.heap p.1 p.2.1 ∧ IsTupleKey knd s.heap p.2.2 p.2.1) (hu : A.units + 8 < cLine) (hz : xs.length ≤ 2000)
    (h : ∀ (h' : Heap) (tk : Nat) (ds : List (List K × Addr × Value)), h'.DictOfH (tupleKind knd) s.heap.objs.size ds → (∀ q, (atKey ds q).isSome = true ↔ ∃ p ∈ xs, p.2.2 = q) → (∀ x ∈ ds, ∃ p ∈ xs, x.1 = p.2.2 ∧ x.2.1 = p.2.1) → (∀ b o, s.heap.get? b = some o → h'.get? b = some o) → Q (.ref s.heap.objs.size) { s with heap := h', toks := tk }) :
    wpAny (model prog w) A (call (.type "dict") [.ref l]) Q E s := by
  refine callType_codes (Q₁ := fun obj s₁ => obj = .ref s.heap.objs.size ∧ s₁ = { s with heap := s.heap.push { cls := .type "dict", data := .dict #[] } }) F.kt_called_dict (F.kt_typeCall_dict_1 _) F.entry_dict_init (kt_code_dict_new _ ⟨rfl, rfl⟩) ?_
  rintro obj s₁ ⟨rfl, rfl⟩
  have hnew : (s.heap.push { cls := .type "dict", data := .dict #[] }).DictOfH (tupleKind knd) s.heap.objs.size [] := Heap.DictOfH.new s.heap
  have hol1 : (s.heap.push { cls := .type "dict", data := .dict #[] }).get? l = some ol := Heap.get?_push_of_some _ hol
  have hlS : l < s.heap.objs.size := Heap.lt_size hol
  refine ⟨hnew.typeIs, F.args_dict_init_2 _ _, ?_⟩
  unfold Builtin.«dict.__init__»
  refine wpAny_bind ?_
  unfold Builtin.Dict.selfAndRest
  refine wpAny_bind (wpAny_notOrdered_dict hnew.typeIs ?_)
  show wpAny _ _ (pure (s.heap.objs.size, [Value.ref l])) _ _ _
  refine wpAny_pure ?_
  show wpAny _ _ (Builtin.Dict.updateFrom "dict.__init__" s.heap.objs.size (.ref l) [] .none) _ _ _
  unfold Builtin.Dict.updateFrom
  refine wpAny_bind (wpAny_typeOf (T := "list") ⟨ol, hol1, hcl⟩ ?_)
  rw [if_pos (by decide)]
  refine wpAny_bind (noKeys hol1 hcl hdl hdd (by simp [hh]) fun h1 tk1 k1 => ?_)
  simp only [Option.isNone_none, if_true]
  have hS1 : h1.DictOfH (tupleKind knd) s.heap.objs.size [] := dictAt hnew (fun o e => k1 _ o e) fun x hx => absurd hx (by simp)
  have hl1 : h1.get? l = some ol := k1 _ _ hol1
  have hL1 : h1.IsList l (xs.map fun p => Value.ref p.1).toArray := ⟨ol, hl1, hcl, nl, hdl⟩
  have kp1 : ∀ b o, s.heap.get? b = some o → h1.get? b = some o := fun b o e => k1 b o (Heap.get?_push_of_some _ e)
  have hSlt : s.heap.objs.size < h1.objs.size := by
    obtain ⟨o, _, _, ho, _⟩ := hS1
    exact Heap.lt_size ho
  have hllt : l < h1.objs.size := Heap.lt_size hl1
  refine wpAny_bind (wpAny_rule (wpAny_bind (wpAny_pyIter_list (s := { s with heap := h1, toks := tk1 }) hL1 ?_)))
  have kp2 : ∀ b o, h1.get? b = some o → (h1.push { cls := .type "list_iterator", data := .fields #[.ref l, .int 0 0] }).get? b = some o := fun b o e => Heap.get?_push_of_some _ e
  have hI2 : (h1.push { cls := .type "list_iterator", data := .fields #[.ref l, .int 0 0] }).get? h1.objs.size = some { cls := .type "list_iterator", data := .fields #[.ref l, .int 0 0] } := Heap.get?_push_size _ rfl
  generalize h1.push { cls := .type "list_iterator", data := .fields #[.ref l, .int 0 0] } = h2 at *
  have W := Walks.list (prog := prog) (w := w) (A := A.in1.in1) (by simp [hh]) h1.objs.size l (Nat.ne_of_lt hllt) (xs.map fun p => Value.ref p.1).toArray
  refine wpAny_pure ⟨plainId_quiet SF.plain_dup _, dloop (knd := knd) W s.heap.objs.size ?_ (xs := xs) (by simp) (fun i v hv => ?_) (fun p hp => ?_) (by simp only [Around.in1]; omega) hz _ 0 _ [] rfl (Nat.zero_le _)
    ⟨⟨_, hI2, rfl, rfl⟩, ⟨ol, kp2 _ _ hl1, hcl, nl, hdl⟩⟩ (dictAt hS1 (fun o e => kp2 _ o e) fun x hx => absurd hx (by simp)) (fun p hp => ⟨(tups p hp).1.at_ fun o e => kp2 _ o (kp1 _ o e), key_at (tups p hp).2 fun o e => kp2 _ o (kp1 _ o e)⟩) (Nat.le_refl _) (fun q => ?_) (fun x hx => absurd hx (by simp)) fun h' tk ds kp hS' m1 m2 => ?_⟩
  · simp only [List.mem_cons, List.not_mem_nil, or_false, not_or]
    exact ⟨Nat.ne_of_lt hSlt, Nat.ne_of_gt hlS⟩
  · simp at hv
    obtain ⟨a, ⟨b, c, hp⟩, rfl⟩ := hv
    exact ⟨(a, b, c), hp, rfl⟩
  · obtain ⟨⟨o1, _, e1, _⟩, ⟨o2, _, _, e2, _⟩⟩ := tups p hp
    simp only [List.mem_cons, List.not_mem_nil, or_false]
    exact ⟨Nat.ne_of_lt (Heap.lt_size (kp1 _ _ e1)), Nat.ne_of_lt (Heap.lt_size (kp1 _ _ e2))⟩
  · simp [atKey]
  · refine ⟨rfl, h h' tk ds hS' m1 m2 fun b o e => kp b o (Nat.ne_of_lt (Heap.lt_size e)) ?_ (kp2 _ _ (kp1 _ _ e))⟩
    simp only [List.mem_cons, List.not_mem_nil, or_false]
    exact Nat.ne_of_lt (Heap.lt_size (kp1 _ _ e))
end
end TB

namespace L2
open PySem PySem.Spec PyProof.Rows
def rawD (prog : Program) (w : World) (h : Heap) (S : Addr) (ds : List (List Int × Addr × Value)) : Prop := (S == sysModules) = false ∧ ∃ o es ep, h.get? S = some o ∧ o.ExactDict ∧ o.data = .dict es ep ∧ es.toList = ds.map (entryOfKey (tupleKind (intKind prog w))) ∧ (ds.map (·.1)).Nodup
def dictO (prog : Program) (w : World) (S : Addr) (ds : List (List Int × Addr × Value)) : HO := .ext fun h => rawD prog w h S ds
abbrev prv (p : Addr × Addr × List Int) : V := .ref p.1
theorem vals_prv : ∀ {ps : List (Addr × Addr × List Int)} {us : List Value}, Vals (ps.map prv) us → us = ps.map fun p => Value.ref p.1
  | [], _, .nil => rfl
  | p :: ps, u :: us, .cons r t => by
    have e : u = .ref p.1 := r
    rw [e, vals_prv t]
    rfl
section
variable {X : Cx} {pins : List (Addr × Obj)} {σ : St} {H : Hp} {s : Shared}
theorem Inv.pair (I : Inv X pins σ H s) {c a : Addr} (h : SqT X.K H c [.ref a, .bl true]) : TB.PairAt s.heap c a := by
  obtain ⟨its, r, ⟨o, ho, hc, n, hd⟩, _⟩ := I.tuple h
  obtain ⟨u, v, rfl, ru, rv⟩ := vals2 r
  cases ru
  cases rv
  exact ⟨o, n, ho, hc, hd⟩
def rDict (K : PySem.W.Frag) (prog : Program) (w : World) : List V → Hp → VK → Prop := fun xs H Q => ∃ (l : Addr) (ps : List (Addr × Addr × List Int)), xs = [.ref l] ∧ SqL K H l (ps.map prv) ∧ (∀ p ∈ ps, SqT K H p.1 [.ref p.2.1, .bl true] ∧ SqT K H p.2.1 (p.2.2.map V.int)) ∧ ps.length ≤ 2000 ∧
  ∀ (S : Addr) (ds : List (List Int × Addr × Value)), H S = none → (∀ q, (atKey ds q).isSome = true ↔ ∃ p ∈ ps, p.2.2 = q) → (∀ x ∈ ds, ∃ p ∈ ps, x.1 = p.2.2 ∧ x.2.1 = p.2.1) → Q (.ref S) (upd H S (dictO prog w S ds))
theorem call_dictT (hc : X.calm = true) (hu : X.A.units + 64 < cLine) : CallR X (.type "dict") (rDict X.K X.prog X.w) := by
  intro pins s σ H xs us Q I r h
  obtain ⟨l, ps, rfl, hq, ht, hz, q⟩ := h
  obtain ⟨u, rfl, ru⟩ := vals1 r
  cases ru
  obtain ⟨its, r', ⟨o, n, ho, hcl, hdd, hd⟩, _⟩ := I.list hq
  rw [vals_prv r'] at hd
  have big : sysModules < s.heap.objs.size := by
    have h : mainGlobals < s.heap.objs.size := (I.mod.glob.keeps I.bk).lt
    exact Nat.lt_trans (by decide) h
  refine TB.call_dictP (knd := intKind X.prog X.w) (xs := ps) (I.ok.hd hc) ho hcl hd hdd (fun p hp => ⟨I.pair (ht p hp).1, I.key (ht p hp).2⟩) (by omega) hz fun h' tk ds hS m1 m2 kp => ?_
  obtain ⟨od, es, ep, hod, e1, e2, e3, _, e5⟩ := hS
  refine ⟨.ref s.heap.objs.size, _, I.laid (t' := tk) kp (Nat.le_refl _) (show ObjOk X.prog X.w _ h' _ (dictO X.prog X.w s.heap.objs.size ds) from ⟨⟨beq_eq_false_iff_ne.mpr (Nat.ne_of_gt big), od, es, ep, hod, e1, e2, e3, e5⟩, ⟨od, hod⟩, fun h1 h2 x k => ?_⟩), rfl, q _ ds (I.hok.fresh (Nat.le_refl _)) m1 m2⟩
  obtain ⟨x0, o, es, ep, ho, r⟩ := x
  exact ⟨x0, o, es, ep, k o ho, r⟩
end
section
variable {X : Cx} (K : PySem.W.Frag)
theorem kDictT (P : Program) (w : World) (hu : X.A.units + 64 < cLine) (h : X.K = K := by rfl) (hP : X.prog = P := by rfl) (hw : X.w = w := by rfl) (hc : X.calm = true := by rfl) : CallR X (.type "dict") (rDict K P w) := by
  subst h; subst hP; subst hw
  exact call_dictT hc hu
end
end L2

namespace TB
open PySem PySem.Spec L2
mutual
def NAt (h : Heap) : Dt → Value → Prop
  | .int i, v => ∃ t, v = .int i t
  | .str x, v => PyData.strOk x = true ∧ ∃ t, v = .str x t
  | .tup ds, v => ∃ a o items n, v = .ref a ∧ h.get? a = some o ∧ o.cls = .type "tuple" ∧ o.data = .seq items n ∧ NAts h ds items.toList
  | _, _ => False
def NAts (h : Heap) : List Dt → List Value → Prop
  | [], vs => vs = []
  | d :: ds, vs => ∃ v r, vs = v :: r ∧ NAt h d v ∧ NAts h ds r
end
mutual
def nDep : Dt → Nat
  | .tup ds => nDeps ds + 1
  | _ => 0
def nDeps : List Dt → Nat
  | [] => 0
  | d :: ds => max (nDep d) (nDeps ds)
end
mutual
def nHash (P : Program) (w : World) : Dt → Int
  | .int i => (intKind P w).hash i
  | .str x => (strKind P w).hash x
  | .tup ds => reduceHash (Builtin.Tuple.tupleHashOf (nHashes P w ds))
  | _ => 0
def nHashes (P : Program) (w : World) : List Dt → List Int
  | [] => []
  | d :: ds => nHash P w d :: nHashes P w ds
end
mutual
def nDraw : Dt → Nat
  | .tup ds => nDraws ds + 1
  | _ => 1
def nDraws : List Dt → Nat
  | [] => 0
  | d :: ds => nDraw d + nDraws ds
end
mutual
theorem NAt.inj {h : Heap} : ∀ (d e : Dt) {v : Value}, NAt h d v → NAt h e v → d = e
  | .int i, e, v, hd, he => by
    obtain ⟨t, rfl⟩ := hd
    cases e with
    | int j => obtain ⟨_, z⟩ := he; cases z; rfl
    | str _ => obtain ⟨_, _, z⟩ := he; cases z
    | tup _ => obtain ⟨_, _, _, _, z, _⟩ := he; cases z
    | _ => exact he.elim
  | .str x, e, v, hd, he => by
    obtain ⟨_, t, rfl⟩ := hd
    cases e with
    | int j => obtain ⟨_, z⟩ := he; cases z
    | str _ => obtain ⟨_, _, z⟩ := he; cases z; rfl
    | tup _ => obtain ⟨_, _, _, _, z, _⟩ := he; cases z
    | _ => exact he.elim
  | .tup ds, e, v, hd, he => by
    obtain ⟨a, o, items, n, rfl, ho, hc, hdat, hi⟩ := hd
    cases e with
    | int j => obtain ⟨_, z⟩ := he; cases z
    | str _ => obtain ⟨_, _, z⟩ := he; cases z
    | tup es =>
      obtain ⟨a', o', items', n', z, ho', hc', hdat', hi'⟩ := he
      cases z
      obtain rfl : o = o' := Option.some.inj (ho.symm.trans ho')
      rw [hdat] at hdat'
      injection hdat' with h1 _
      subst h1
      rw [NAts.inj ds es hi hi']
    | _ => exact he.elim
  | .non, _, _, hd, _ => hd.elim
  | .bl _, _, _, hd, _ => hd.elim
  | .lst _, _, _, hd, _ => hd.elim
theorem NAts.inj {h : Heap} : ∀ (ds es : List Dt) {vs : List Value}, NAts h ds vs → NAts h es vs → ds = es
  | [], [], _, _, _ => rfl
  | [], e :: es, vs, hd, he => by obtain ⟨_, _, z, _⟩ := he; rw [show vs = [] from hd] at z; cases z
  | d :: ds, [], vs, hd, he => by obtain ⟨_, _, z, _⟩ := hd; rw [show vs = [] from he] at z; cases z
  | d :: ds, e :: es, vs, hd, he => by
    obtain ⟨v, r, rfl, h1, h2⟩ := hd
    obtain ⟨v', r', z, g1, g2⟩ := he
    cases z
    rw [NAt.inj d e h1 g1, NAts.inj ds es h2 g2]
end
mutual
theorem NAt.keep {h h' : Heap} (k : ∀ b o items n, h.get? b = some o → o.cls = .type "tuple" → o.data = .seq items n → h'.get? b = some o) : ∀ (d : Dt) {v : Value}, NAt h d v → NAt h' d v
  | .int i, v, hd => hd
  | .str x, v, hd => hd
  | .tup ds, v, hd => by
    obtain ⟨a, o, items, n, rfl, ho, hc, hdat, hi⟩ := hd
    exact ⟨a, o, items, n, rfl, k _ _ _ _ ho hc hdat, hc, hdat, NAts.keep k ds hi⟩
  | .non, _, hd => hd.elim
  | .bl _, _, hd => hd.elim
  | .lst _, _, hd => hd.elim
theorem NAts.keep {h h' : Heap} (k : ∀ b o items n, h.get? b = some o → o.cls = .type "tuple" → o.data = .seq items n → h'.get? b = some o) : ∀ (ds : List Dt) {vs : List Value}, NAts h ds vs → NAts h' ds vs
  | [], _, hd => hd
  | d :: ds, vs, hd => by
    obtain ⟨v, r, rfl, h1, h2⟩ := hd
    exact ⟨v, r, rfl, NAt.keep k d h1, NAts.keep k ds h2⟩
end
mutual
theorem NAt.reads {h : Heap} : ∀ (d : Dt) {v : Value}, NAt h d v → ∃ as, Reads h v d.py as
  | .int i, v, hd => by obtain ⟨t, rfl⟩ := hd; exact ⟨_, .int i t⟩
  | .str x, v, hd => by obtain ⟨_, t, rfl⟩ := hd; exact ⟨_, .str x t⟩
  | .tup ds, v, hd => by
    obtain ⟨a, o, items, n, rfl, ho, hc, hdat, hi⟩ := hd
    obtain ⟨as, ra⟩ := NAts.reads ds hi
    exact ⟨_, .tuple ho hc hdat ra⟩
  | .non, _, hd => hd.elim
  | .bl _, _, hd => hd.elim
  | .lst _, _, hd => hd.elim
theorem NAts.reads {h : Heap} : ∀ (ds : List Dt) {vs : List Value}, NAts h ds vs → ∃ as, ReadsAll h vs (Dt.pys ds) as
  | [], vs, hd => by rw [show vs = [] from hd]; exact ⟨_, .nil⟩
  | d :: ds, vs, hd => by
    obtain ⟨v, r, rfl, h1, h2⟩ := hd
    obtain ⟨as, ra⟩ := NAt.reads d h1
    obtain ⟨bs, rb⟩ := NAts.reads ds h2
    exact ⟨_, .cons ra rb⟩
end
mutual
def isN : Dt → Bool
  | .int _ => true
  | .str x => PyData.strOk x
  | .tup ds => areN ds
  | _ => false
def areN : List Dt → Bool
  | [] => true
  | d :: ds => isN d && areN ds
end
mutual
theorem NAt.isN {h : Heap} : ∀ (d : Dt) {v : Value}, NAt h d v → isN d = true
  | .int i, v, hd => rfl
  | .str x, v, hd => hd.1
  | .tup ds, v, hd => by
    obtain ⟨a, o, items, n, rfl, ho, hc, hdat, hi⟩ := hd
    exact NAts.isN ds hi
  | .non, _, hd => hd.elim
  | .bl _, _, hd => hd.elim
  | .lst _, _, hd => hd.elim
theorem NAts.isN {h : Heap} : ∀ (ds : List Dt) {vs : List Value}, NAts h ds vs → areN ds = true
  | [], vs, hd => rfl
  | d :: ds, vs, hd => by
    obtain ⟨v, r, rfl, h1, h2⟩ := hd
    show (TB.isN d && areN ds) = true
    rw [NAt.isN d h1, NAts.isN ds h2]
    rfl
end
mutual
theorem n_lay : ∀ d : Dt, isN d = true → d.py.canLay0 = true
  | .int i, _ => rfl
  | .str x, h => h
  | .tup ds, h => ns_lay ds h
  | .non, h => nomatch h
  | .bl _, h => nomatch h
  | .lst _, h => nomatch h
theorem ns_lay : ∀ ds : List Dt, areN ds = true → PyData.canLayAll0 (Dt.pys ds) = true
  | [], _ => rfl
  | d :: ds, h => by
    have h' : isN d = true ∧ areN ds = true := Bool.and_eq_true_iff.mp h
    show (d.py.canLay0 && PyData.canLayAll0 (Dt.pys ds)) = true
    rw [n_lay d h'.1, ns_lay ds h'.2]
    rfl
end
mutual
theorem n_depth : ∀ d : Dt, isN d = true → d.py.depth = nDep d
  | .int i, _ => rfl
  | .str x, _ => rfl
  | .tup ds, h => by show PyData.depthAll (Dt.pys ds) + 1 = nDeps ds + 1; rw [ns_depth ds h]
  | .non, h => nomatch h
  | .bl _, h => nomatch h
  | .lst _, h => nomatch h
theorem ns_depth : ∀ ds : List Dt, areN ds = true → PyData.depthAll (Dt.pys ds) = nDeps ds
  | [], _ => rfl
  | d :: ds, h => by
    have h' : isN d = true ∧ areN ds = true := Bool.and_eq_true_iff.mp h
    show max d.py.depth (PyData.depthAll (Dt.pys ds)) = max (nDep d) (nDeps ds)
    rw [n_depth d h'.1, ns_depth ds h'.2]
end
mutual
theorem n_eqv : ∀ d e : Dt, isN d = true → isN e = true → (PyData.eqv d.py e.py = true ↔ d = e)
  | .int i, .int j, _, _ => by show (i == j) = true ↔ _; simp
  | .int i, .str x, _, _ => by show false = true ↔ _; simp
  | .int i, .tup ds, _, _ => by show false = true ↔ _; simp
  | .str x, .int j, _, _ => by show false = true ↔ _; simp
  | .str x, .str y, _, _ => by show (x == y) = true ↔ _; simp
  | .str x, .tup ds, _, _ => by show false = true ↔ _; simp
  | .tup ds, .int j, _, _ => by show false = true ↔ _; simp
  | .tup ds, .str x, _, _ => by show false = true ↔ _; simp
  | .tup ds, .tup es, h1, h2 => by
    show PyData.eqvAll (Dt.pys ds) (Dt.pys es) = true ↔ _
    rw [ns_eqv ds es h1 h2]
    simp
  | .non, _, h, _ => nomatch h
  | .bl _, _, h, _ => nomatch h
  | .lst _, _, h, _ => nomatch h
  | _, .non, _, h => nomatch h
  | _, .bl _, _, h => nomatch h
  | _, .lst _, _, h => nomatch h
theorem ns_eqv : ∀ ds es : List Dt, areN ds = true → areN es = true → (PyData.eqvAll (Dt.pys ds) (Dt.pys es) = true ↔ ds = es)
  | [], [], _, _ => by simp [Dt.pys, PyData.eqvAll]
  | [], e :: es, _, _ => by simp [Dt.pys, PyData.eqvAll]
  | d :: ds, [], _, _ => by simp [Dt.pys, PyData.eqvAll]
  | d :: ds, e :: es, h1, h2 => by
    have h1' : isN d = true ∧ areN ds = true := Bool.and_eq_true_iff.mp h1
    have h2' : isN e = true ∧ areN es = true := Bool.and_eq_true_iff.mp h2
    show (PyData.eqv d.py e.py && PyData.eqvAll (Dt.pys ds) (Dt.pys es)) = true ↔ _
    rw [Bool.and_eq_true, n_eqv d e h1'.1 h2'.1, ns_eqv ds es h1'.2 h2'.2]
    simp
end
section
variable {prog : Program} {w : World} {E : Value → Shared → Prop}
mutual
theorem n_hash : ∀ (d : Dt) (v : Value) (A : Around) (s : Shared) (Q : Int → Shared → Prop), NAt s.heap d v → A.units + nDep d < cLine → Q (nHash prog w d) { s with toks := s.toks + nDraw d } → wpAny (model prog w) A (pyHash v) Q E s
  | .int i, v, A, s, Q, hd, hu, q => by
    obtain ⟨t, rfl⟩ := hd
    exact (intKind prog w).pyHash (k := i) (by show (i == i) = true; simp) q
  | .str x, v, A, s, Q, hd, hu, q => by
    obtain ⟨_, t, rfl⟩ := hd
    exact (strKind prog w).pyHash (k := x) (by show (x == x) = true; simp) q
  | .tup ds, v, A, s, Q, hd, hu, q => by
    obtain ⟨a, o, items, n, rfl, ho, hc, hdat, hi⟩ := hd
    have hu' : A.units + (nDeps ds + 1) < cLine := hu
    refine PySem.W.pyHash_slot (T := "tuple") ⟨_, ho, hc⟩ F.slot_tuple_hash F.entry_tuple_hash (F.args_tuple_hash_1 _) (beq_builtin_none _) (.inr (by omega)) ?_
    show wpAny _ _ (Builtin.Tuple.tupleItemsOf (.ref a) >>= _) _ _ s
    refine wpAny_bind (wpAny_tupleItemsOf ho hdat ?_)
    refine wpAny_bind ?_
    rw [← Array.forIn_toList]
    refine ns_hash ds _ A.in1 s #[] _ hi (by rw [Around.in1_units]; omega) ?_
    intro b hb
    show wpAny _ _ (retInt (Builtin.Tuple.tupleHashOf b.toList)) _ _ _
    rw [hb]
    refine wpAny_bind (wpAny_mkInt (wpAny_pure ⟨_, _, rfl, ?_⟩))
    exact q
  | .non, _, _, _, _, hd, _, _ => hd.elim
  | .bl _, _, _, _, _, hd, _, _ => hd.elim
  | .lst _, _, _, _, _, hd, _, _ => hd.elim
theorem ns_hash : ∀ (ds : List Dt) (vs : List Value) (A : Around) (s : Shared) (b : Array Int) (Q : Array Int → Shared → Prop), NAts s.heap ds vs → A.units + nDeps ds < cLine →
    (∀ b', b'.toList = b.toList ++ nHashes prog w ds → Q b' { s with toks := s.toks + nDraws ds }) →
    wpAny (model prog w) A (forIn vs b fun x r => do let h ← pyHash x; pure PUnit.unit; pure (ForInStep.yield (r.push h))) Q E s
  | [], vs, A, s, b, Q, hd, hu, q => by
    rw [show vs = [] from hd]
    exact wpAny_pure (q b (by simp [nHashes]))
  | d :: ds, vs, A, s, b, Q, hd, hu, q => by
    obtain ⟨v, r, rfl, h1, h2⟩ := hd
    have hu' : A.units + max (nDep d) (nDeps ds) < cLine := hu
    rw [List.forIn_cons]
    refine wpAny_bind (wpAny_bind (n_hash d _ A s _ h1 (by omega) ?_))
    refine wpAny_bind (wpAny_pure (wpAny_pure ?_))
    refine ns_hash ds _ A _ _ Q h2 (by omega) fun b' hb => ?_
    have := q b' (by simp [hb, nHashes])
    rw [show s.toks + nDraws (d :: ds) = s.toks + nDraw d + nDraws ds by rw [Nat.add_assoc]; rfl] at this
    exact this
end
mutual
theorem n_quiet : ∀ (d : Dt) (k : Nat) (v : Value) (A : Around) (s : Shared) (Q : Bool → Shared → Prop), NAt s.heap d v → nDep d ≤ k → Q true s → wpAny (model prog w) A (eqIsQuiet k v) Q E s
  | .int i, k, v, A, s, Q, hd, hk, q => by
    obtain ⟨t, rfl⟩ := hd
    rw [eqIsQuiet_byValue _ (by rfl)]
    exact wpAny_pure q
  | .str x, k, v, A, s, Q, hd, hk, q => by
    obtain ⟨_, t, rfl⟩ := hd
    rw [eqIsQuiet_byValue _ (by rfl)]
    exact wpAny_pure q
  | .tup ds, k, v, A, s, Q, hd, hk, q => by
    have hk0 : nDeps ds + 1 ≤ k := hk
    obtain ⟨k, rfl⟩ : ∃ k', k = k' + 1 := ⟨k - 1, by omega⟩
    obtain ⟨a, o, items, n, rfl, ho, hc, hdat, hi⟩ := hd
    have hT : s.TypeIs (.ref a) "tuple" := ⟨o, ho, hc⟩
    have hk' : nDeps ds ≤ k := Nat.le_of_succ_le_succ hk
    unfold eqIsQuiet
    refine wpAny_bind (wpAny_specialOf hT F.slot_tuple_eq.lookup ?_)
    show wpAny _ _ (isInstance (.ref a) (.type "tuple") >>= _) _ _ s
    refine wpAny_bind (wpAny_isInstance hT isSubtype_tuple_tuple ?_)
    simp only [Bool.not_true, Bool.false_eq_true, if_false]
    refine wpAny_bind (wpAny_seqItems ho hdat ?_)
    refine wpAny_bind ?_
    show wpAny _ _ (forIn items _ _) _ _ s
    rw [← Array.forIn_toList]
    refine wpAny_forIn_list _ (fun rest r s' => r.1 = none ∧ s' = s ∧ ∃ es, NAts s.heap es rest ∧ nDeps es ≤ k ∧ ∀ e ∈ es, e ∈ ds) _ ?_ ?_ _ _ ⟨rfl, rfl, ds, hi, hk', fun e he => he⟩
    · rintro v rest r s' ⟨hr, rfl, es, hes, hke, hsub⟩
      cases es with
      | nil => cases (show v :: rest = [] from hes)
      | cons e es =>
        obtain ⟨v', r', z, h1, h2⟩ := hes
        cases z
        have hke' : max (nDep e) (nDeps es) ≤ k := hke
        refine wpAny_bind (ns_quiet ds e (hsub e List.mem_cons_self) k _ _ _ _ h1 (by omega) ?_)
        simp only [Bool.not_true, Bool.false_eq_true, if_false]
        exact wpAny_pure ⟨rfl, rfl, es, h2, by omega, fun e' he' => hsub e' (List.mem_cons_of_mem _ he')⟩
    · rintro ⟨r1, r2⟩ s' ⟨hr, rfl, _⟩
      simp only at hr
      subst hr
      exact wpAny_pure q
  | .non, _, _, _, _, _, hd, _, _ => hd.elim
  | .bl _, _, _, _, _, _, hd, _, _ => hd.elim
  | .lst _, _, _, _, _, _, hd, _, _ => hd.elim
theorem ns_quiet : ∀ (ds : List Dt) (d : Dt), d ∈ ds → ∀ (k : Nat) (v : Value) (A : Around) (s : Shared) (Q : Bool → Shared → Prop), NAt s.heap d v → nDep d ≤ k → Q true s → wpAny (model prog w) A (eqIsQuiet k v) Q E s
  | [], d, h => nomatch h
  | e :: es, d, h => fun k v A s Q hd hk q => by
    by_cases z : e = d
    · subst z
      exact n_quiet e k v A s Q hd hk q
    · exact ns_quiet es d (by rcases List.mem_cons.mp h with y | y; exact absurd y.symm z; exact y) k v A s Q hd hk q
end
end
noncomputable instance decDt : DecidableEq Dt := fun _ _ => Classical.propDecidable _
/-- a tuple that may be a key -/
def NKey (h : Heap) (d : Dt) (a : Addr) : Prop := (∃ ds, d = .tup ds) ∧ nDep d ≤ 8 ∧ NAt h d (.ref a)
noncomputable def nKind (prog : Program) (w : World) : HeapKind prog w Dt where
  is := NKey
  hash := nHash prog w
  draws := nDraw
  room := fun A => A.units + 8 < cLine
  inj := fun hx hy => NAt.inj _ _ hx.2.2 hy.2.2
  keeps := fun {h h' k a d o es ep} x ho hd hs => ⟨x.1, x.2.1, NAt.keep (fun b o' items n e c dt => (hs.2 b fun z => by
    subst z
    rw [ho] at e; cases e
    rw [hd] at dt; cases dt).trans e) _ x.2.2⟩
  pyHash := fun hu hk h => n_hash _ _ _ _ _ hk.2.2 (by have := hk.2.1; omega) h
  eqBool := fun {A E s x y a b Q} hu hx hy h => by
    obtain ⟨as, ra⟩ := NAt.reads x hx.2.2
    obtain ⟨bs, rb⟩ := NAt.reads y hy.2.2
    have i1 := NAt.isN x hx.2.2
    have i2 := NAt.isN y hy.2.2
    have d1 := n_depth x i1
    have k1 := hx.2.1
    refine SeqAt.eqAt_reads x.py y.py A s _ _ as bs ra rb (n_lay x i1) (n_lay y i2) (by rw [d1]; omega) prog w E Q ?_
    rw [show PyData.eqv x.py y.py = decide (x = y) by rw [Bool.eq_iff_iff, n_eqv x y i1 i2, decide_eq_true_iff]]
    exact h
  quiet := fun hk h => n_quiet _ 8 _ _ _ _ hk.2.2 hk.2.1 h
end TB

namespace L2
open PySem PySem.Spec PyProof.Rows

section
variable {κ : Type} [DecidableEq κ]
end


section
variable {P : Program} {w : World} {H : Hp} {h : Heap} {a : Addr}
end

section
variable {X : Cx} {pins : List (Addr × Obj)} {σ : St} {H : Hp} {s : Shared} {a : Addr} {y v : V} {u r : Value} {o : Option V} {A : Around} {E : Value → Shared → Prop}

theorem Inv.big (I : Inv X pins σ H s) : sysModules < s.heap.objs.size := by
  have h : mainGlobals < s.heap.objs.size := (I.mod.glob.keeps I.bk).lt
  exact Nat.lt_trans (by decide) h

/-- a dict's object is replaced -/
theorem d_write {h' : Heap} {t' : Nat} {ob : HO} (I : Inv X pins σ H s) (mu : Mut (H a)) (hs : Heap.SameBut a s.heap h') (he : ∃ q, h'.get? a = some q) (new : ObjOk X.prog X.w (upd H a ob) h' a ob) :
    Inv X pins σ (upd H a ob) { s with heap := h', toks := t' } :=
  I.write (x := a) (e := a) mu (.inl rfl) (fun b q hb z => (hs.2 b hb).trans z) he new
end

section
variable {X : Cx} {pins : List (Addr × Obj)} {σ : St} {H : Hp} {s : Shared} {a : Addr} {kvs : List (Key × V)} {k : Key} {u : Value} {A : Around} {E : Value → Shared → Prop}
end


section
variable {X : Cx} {o i e value : Expr} {pos pos' tpos : Pos} {td ty tv : TE}
end


section
variable {X : Cx} {pos : Pos}
end

section
variable {X : Cx} {pins : List (Addr × Obj)} {σ : St} {H : Hp} {s : Shared} {a : Addr} {y d : V} {u r : Value} {o : Option V} {A : Around} {E : Value → Shared → Prop}
end

section
variable {X : Cx} {o e f : Expr} {apos cpos : Pos} {td ty tx : TE}
end

section
variable {X : Cx} {pins : List (Addr × Obj)} {σ : St} {H : Hp} {s : Shared} {a : Addr} {kvs : List (Key × V)} {A : Around} {E : Value → Shared → Prop}
end


section
variable {X : Cx} {pins : List (Addr × Obj)} {σ : St} {H : Hp} {s : Shared} {a : Addr} {y : V} {u : Value} {A : Around} {E : Value → Shared → Prop}
end
end L2

namespace L2
open PySem PySem.Spec PyProof.Rows
section
variable {κ : Type} [DecidableEq κ]
end
end L2

namespace L2
open PySem PySem.Spec PyProof.Rows TB
theorem sqT_upd {K : PySem.W.Frag} {H : Hp} {c q : Addr} {xs : List V} {o : HO} (mu : Mut (H c)) (h : SqT K H q xs) : SqT K (upd H c o) q xs := by
  rcases h with (h | ⟨u, h⟩) | h
  · exact .inl (.inl (by rw [upd_ne (fun z => by subst z; rw [h] at mu; exact mu)]; exact h))
  · exact .inl (.inr ⟨u, by rw [upd_ne (fun z => by subst z; rw [h] at mu; exact mu)]; exact h⟩)
  · exact .inr h
mutual
theorem rep_tups {K : PySem.W.Frag} {H H' : Hp} (k : ∀ q xs, SqT K H q xs → SqT K H' q xs) : ∀ (d : Dt) {v : V}, isN d = true → Rep K H d v → Rep K H' d v
  | .int i, v, _, h => by unfold Rep at h ⊢; exact h
  | .str x, v, _, h => by unfold Rep at h ⊢; exact h
  | .tup ds, v, n, h => by
    unfold Rep at h ⊢
    obtain ⟨a, xs, rfl, q, r⟩ := h
    exact ⟨a, xs, rfl, k _ _ q, reps_tups_ k ds n r⟩
  | .non, _, n, _ => nomatch n
  | .bl _, _, n, _ => nomatch n
  | .lst _, _, n, _ => nomatch n
theorem reps_tups_ {K : PySem.W.Frag} {H H' : Hp} (k : ∀ q xs, SqT K H q xs → SqT K H' q xs) : ∀ (ds : List Dt) {vs : List V}, areN ds = true → Reps K H ds vs → Reps K H' ds vs
  | [], vs, _, h => by unfold Reps at h ⊢; exact h
  | d :: ds, vs, n, h => by
    have n' : isN d = true ∧ areN ds = true := Bool.and_eq_true_iff.mp n
    unfold Reps at h ⊢
    obtain ⟨v, r, rfl, h1, h2⟩ := h
    exact ⟨v, r, rfl, rep_tups k d n'.1 h1, reps_tups_ k ds n'.2 h2⟩
end
section
variable {X : Cx} {pins : List (Addr × Obj)} {σ : St} {H : Hp} {s : Shared}
mutual
theorem nat_of (I : Inv X pins σ H s) : ∀ (d : Dt) {x : V} {u : Value}, isN d = true → Rep X.K H d x → RelV x u → NAt s.heap d u
  | .int i, x, u, _, h, r => by unfold Rep at h; subst h; exact r
  | .str z, x, u, n, h, r => by unfold Rep at h; subst h; exact ⟨n, r⟩
  | .tup ds, x, u, n, h, r => by
    unfold Rep at h
    obtain ⟨a, xs, rfl, q, rr⟩ := h
    cases r
    obtain ⟨its, r1, ⟨o, ho, hc, n', hd⟩, _⟩ := I.tuple q
    exact ⟨a, o, its.toArray, n', rfl, ho, hc, hd, by simpa using nats_of I ds n rr r1⟩
  | .non, _, _, n, _, _ => nomatch n
  | .bl _, _, _, n, _, _ => nomatch n
  | .lst _, _, _, n, _, _ => nomatch n
theorem nats_of (I : Inv X pins σ H s) : ∀ (ds : List Dt) {xs : List V} {us : List Value}, areN ds = true → Reps X.K H ds xs → Vals xs us → NAts s.heap ds us
  | [], xs, us, _, h, r => by unfold Reps at h; subst h; cases r; rfl
  | d :: ds, xs, us, n, h, r => by
    have n' : isN d = true ∧ areN ds = true := Bool.and_eq_true_iff.mp n
    unfold Reps at h
    obtain ⟨x, xr, rfl, q, t⟩ := h
    cases r with
    | cons rx rxs => exact ⟨_, _, rfl, nat_of I d n'.1 q rx, nats_of I ds n'.2 t rxs⟩
end
end
/-- the tuple at a is the key d -/
def NK (K : PySem.W.Frag) (H : Hp) (d : Dt) (a : Addr) : Prop := (∃ ds, d = .tup ds) ∧ nDep d ≤ 8 ∧ isN d = true ∧ Rep K H d (.ref a)
theorem NK.of {K : PySem.W.Frag} {H : Hp} {ds : List Dt} {a : Addr} {xs : List V} (h : SqT K H a xs) (r : Reps K H ds xs) (hn : areN ds = true) (hd : nDeps ds ≤ 7) : NK K H (.tup ds) a :=
  ⟨⟨ds, rfl⟩, Nat.succ_le_succ hd, hn, by unfold Rep; exact ⟨a, xs, rfl, h, r⟩⟩
theorem NK.tups {K : PySem.W.Frag} {H H' : Hp} {d : Dt} {a : Addr} (h : NK K H d a) (k : ∀ q xs, SqT K H q xs → SqT K H' q xs) : NK K H' d a := ⟨h.1, h.2.1, h.2.2.1, rep_tups k _ h.2.2.1 h.2.2.2⟩
theorem NK.key {X : Cx} {pins : List (Addr × Obj)} {σ : St} {H : Hp} {s : Shared} {d : Dt} {a : Addr} (I : Inv X pins σ H s) (h : NK X.K H d a) : (nKind X.prog X.w).is s.heap d a := ⟨h.1, h.2.1, nat_of I d h.2.2.1 h.2.2.2 rfl⟩
def rawN (P : Program) (w : World) (h : Heap) (S : Addr) (ds : List (Dt × Addr × Value)) : Prop := (S == sysModules) = false ∧ ∃ o es ep, h.get? S = some o ∧ o.ExactDict ∧ o.data = .dict es ep ∧ es.toList = ds.map (entryOfKey (nKind P w)) ∧ (ds.map (·.1)).Nodup
def dictN (P : Program) (w : World) (S : Addr) (ds : List (Dt × Addr × Value)) : HO := .ext fun h => rawN P w h S ds
theorem dictN_ok {P : Program} {w : World} {H : Hp} {h : Heap} {S : Addr} {ds : List (Dt × Addr × Value)} (x : rawN P w h S ds) : ObjOk P w H h S (dictN P w S ds) := by
  obtain ⟨x0, o, es, ep, ho, r⟩ := id x
  refine ⟨x, ⟨o, ho⟩, fun h1 h2 y k => ?_⟩
  obtain ⟨y0, o1, es1, ep1, ho1, r1⟩ := y
  exact ⟨y0, o1, es1, ep1, k _ ho1, r1⟩
/-- the dict at a holds m, at most n keys -/
def NMap (K : PySem.W.Frag) (P : Program) (w : World) (H : Hp) (a : Addr) (m : Dt → Option V) (n : Nat) : Prop :=
  ∃ ds : List (Dt × Addr × Value), H a = some (dictN P w a ds) ∧ ds.length ≤ n ∧ (∀ x ∈ ds, NK K H x.1 x.2.1) ∧ ∀ k, RelO (m k) ((atKey ds k).map (·.2))
section
variable {K : PySem.W.Frag} {P : Program} {w : World} {H H' : Hp} {a : Addr} {m : Dt → Option V} {n : Nat}
theorem NMap.mut (h : NMap K P w H a m n) : Mut (H a) := by
  obtain ⟨ds, e, _⟩ := h
  rw [e]
  exact True.intro
theorem NMap.keep (h : NMap K P w H a m n) (e : H' a = H a) (k : ∀ q xs, SqT K H q xs → SqT K H' q xs) : NMap K P w H' a m n := by
  obtain ⟨ds, e1, e2, e3, e4⟩ := h
  exact ⟨ds, by rw [e]; exact e1, e2, fun x hx => (e3 x hx).tups k, e4⟩
theorem NMap.same (h : NMap K P w H a m n) (s : Same H H') : NMap K P w H' a m n := by
  refine h.keep ?_ fun q xs h => s.tup h
  obtain ⟨ds, e1, _⟩ := h
  rw [e1]
  exact s _ _ e1
end
theorem find_map_putAt (ds : List (Dt × Addr × Value)) (k : Dt) (v : Value) (k' : Dt) : (atKey (ds.map (putAt k v)) k').map (·.2) = if k' = k then (atKey ds k').map fun _ => v else (atKey ds k').map (·.2) := by
  induction ds with
  | nil => simp [atKey]
  | cons x xs ih =>
    unfold atKey at ih ⊢
    rw [List.map_cons, List.find?_cons, List.find?_cons]
    have e1 : (putAt k v x).1 = x.1 := by unfold putAt; split <;> rfl
    rw [e1]
    by_cases hx : x.1 = k'
    · rw [decide_eq_true hx]
      by_cases hk : k' = k
      · rw [if_pos hk]
        simp [putAt, hx, hk]
      · rw [if_neg hk]
        have : ¬ x.1 = k := fun z => hk (by rw [← hx, z])
        simp [putAt, this]
    · rw [decide_eq_false hx]
      exact ih
theorem atKey_put (ds : List (Dt × Addr × Value)) (k : Dt) (b : Addr) (v : Value) (k' : Dt) : (atKey (storedH ds k b v) k').map (·.2) = if k' = k then some v else (atKey ds k').map (·.2) := by
  unfold storedH
  split
  · rename_i h
    rw [find_map_putAt]
    split
    · rename_i e
      subst e
      obtain ⟨p, hp⟩ := Option.isSome_iff_exists.mp h
      rw [hp]; rfl
    · rfl
  · rename_i h
    have hn : atKey ds k = none := by
      cases e : atKey ds k with
      | none => rfl
      | some p => rw [e] at h; exact absurd rfl h
    unfold atKey at hn ⊢
    rw [List.find?_append]
    by_cases e : k' = k
    · subst e
      rw [Option.map_eq_none_iff.mp hn]
      simp
    · rw [if_neg e]
      have : ¬ k = k' := fun z => e z.symm
      simp [this]
section
variable {X : Cx} {pins : List (Addr × Obj)} {σ : St} {H : Hp} {s : Shared} {a : Addr} {y v : V} {u r : Value} {o : Option V} {A : Around} {E : Value → Shared → Prop} {m : Dt → Option V} {n : Nat}
theorem nmap_of (I : Inv X pins σ H s) (h : NMap X.K X.prog X.w H a m n) : (a == sysModules) = false ∧ ∃ ds, s.heap.DictOfH (nKind X.prog X.w) a ds ∧ H a = some (dictN X.prog X.w a ds) ∧ ds.length ≤ n ∧ (∀ x ∈ ds, NK X.K H x.1 x.2.1) ∧ ∀ k, RelO (m k) ((atKey ds k).map (·.2)) := by
  obtain ⟨ds, e, hl, hk, hm⟩ := h
  obtain ⟨⟨x0, o, es, ep, ho, e1, e2, e3, e4⟩, _⟩ := (show ObjOk X.prog X.w H s.heap a (dictN X.prog X.w a ds) from I.hok a _ e)
  exact ⟨x0, ds, ⟨o, es, ep, ho, e1, e2, e3, fun x hx => (hk x hx).key I, e4⟩, e, hl, hk, hm⟩
theorem nroom (hu : A.units + 9 < cLine) : (nKind X.prog X.w).room A.in1 := by
  show A.in1.units + 8 < cLine
  rw [Around.in1_units]
  omega
/-- the heap behind a[y] = v -/
def NPut (K : PySem.W.Frag) (P : Program) (w : World) (H : Hp) (a : Addr) (y v : V) (Q : Hp → Prop) : Prop := ∃ m n d b, NMap K P w H a m n ∧ n < sizeLine ∧ y = .ref b ∧ NK K H d b ∧
  ∀ o, NMap K P w (upd H a o) a (fun k => if k = d then some v else m k) (n + 1) → Q (upd H a o)
theorem n_setItem {R : Hp → Prop} {Q : Unit → Shared → Prop} (hu : A.units + 9 < cLine) (I : Inv X pins σ H s) (g : NPut X.K X.prog X.w H a y v R) (ry : RelV y u) (rv : RelV v r) (h : ∀ H' s', Inv X pins σ H' s' → R H' → Q () s') :
    wpAny (model X.prog X.w) A (setItem (.ref a) u r) Q E s := by
  obtain ⟨m, n, d, b, hm, hn, rfl, hk, k⟩ := g
  cases (show u = Value.ref b from ry)
  have mu := hm.mut
  obtain ⟨x0, ds, dd, eH, hl, hks, rel⟩ := nmap_of I hm
  refine wpAny_setItem_heap (hsz := by omega) (nroom hu) (hk.key I) dd fun h' dd' hs => ?_
  obtain ⟨q, es, ep, hq, h2, h3, h4, _, h5⟩ := dd'
  have raw : rawN X.prog X.w h' a (storedH ds d b r) := ⟨x0, q, es, ep, hq, h2, h3, h4, h5⟩
  refine h _ _ (d_write I mu hs ⟨q, hq⟩ (dictN_ok raw)) (k _ ⟨storedH ds d b r, upd_same, ?_, fun x hx => ?_, fun k' => ?_⟩)
  · unfold storedH
    split
    · rw [List.length_map]; omega
    · rw [List.length_append, List.length_singleton]; omega
  · have up : ∀ {d : Dt} {c : Addr}, NK X.K H d c → NK X.K (upd H a (dictN X.prog X.w a (storedH ds d b r))) d c := fun h => h.tups fun q xs hq => sqT_upd mu hq
    unfold storedH at hx
    split at hx
    · obtain ⟨z, hz, rfl⟩ := List.mem_map.mp hx
      have := hks z hz
      unfold putAt
      split <;> exact this.tups fun q xs hq => sqT_upd mu hq
    · rcases List.mem_append.mp hx with z | z
      · exact (hks x z).tups fun q xs hq => sqT_upd mu hq
      · rw [List.mem_singleton.mp z]
        exact hk.tups fun q xs hq => sqT_upd mu hq
  · rw [atKey_put]
    show RelO (if k' = d then some v else m k') _
    by_cases e : k' = d
    · rw [if_pos e, if_pos e]; exact rv
    · rw [if_neg e, if_neg e]; exact rel k'
end
def sNPut (K : PySem.W.Frag) (P : Program) (w : World) (td ty tv : TE) : TS := fun D σ H => tv σ H fun v H1 => td σ H1 fun x H2 => ty σ H2 fun y H3 => ∃ a, x = .ref a ∧ NPut K P w H3 a y v fun H4 => D.nx σ H4
section
variable {X : Cx} {o i e value : Expr} {pos pos' tpos : Pos} {td ty tv : TE} (K : PySem.W.Frag) (P : Program) (w : World)
theorem kNPut (hu : X.A.units + 9 < cLine) (ho : PE X o td) (hi : PE X i ty) (hv : PE X value tv) (hs : swapsWith value (some (.Subscript o i pos')) pos.line X.env = pure false) (hK : X.K = K := by rfl) (hP : X.prog = P := by rfl) (hw : X.w = w := by rfl) :
    PS X (.Assign [.Subscript o i pos'] value pos) (sNPut K P w td ty tv) := by
  subst hK; subst hP; subst hw
  intro pins s σ H D I h
  refine wpAny_Assign_Subscript (thn (hv pins s σ H _ I h) fun r s1 ⟨v, H1, I1, rv, q1⟩ => thn (ho pins s1 σ H1 _ I1 q1) fun u s2 ⟨x, H2, I2, rx, q2⟩ => thn (hi pins s2 σ H2 _ I2 q2) fun iv s3 ⟨y, H3, I3, ry, a, ex, g⟩ => ?_) hs
  subst ex
  obtain rfl : u = Value.ref a := rx
  exact n_setItem hu I3 g ry rv fun H4 s4 I4 q3 => ⟨σ, H4, I4, q3⟩
end
end L2

namespace TB
open PySem PySem.Spec PySem.W PyProof.Rows
section
variable {prog : Program} {w : World} {A : Around} {E : Value → Shared → Prop} {s : Shared}
set_option maxHeartbeats 1000000 in
theorem sorted_of {r : Value} {C : Heap → List (Addr × List Int) → Prop} {Q : Value → Shared → Prop} (hh : A.handled = none)
    (col : ∀ (A' : Around) (E' : Value → Shared → Prop) (R : List Value → Shared → Prop), A'.handled = none → (∀ (h1 : Heap) (tk : Nat) (qs : List (Addr × List Int)), (∀ b o, s.heap.get? b = some o → h1.get? b = some o) → C h1 qs → R (qs.map rf) { s with heap := h1, toks := tk }) → wpAny (model prog w) A' (collect r) R E' s)
    (hC : ∀ h1 qs, C h1 qs → (∀ p ∈ qs, IsTupleKey (intKind prog w) h1 p.2 p.1) ∧ (∀ p ∈ qs, p.2 ≠ []) ∧ (qs.map (·.2)).Nodup ∧ qs.length < 64)
    (h : ∀ (h1 : Heap) (qs : List (Addr × List Int)) (h' : Heap) (tk : Nat) (l : Addr) (ps' : List (Addr × List Int)) (c : Nat), C h1 qs → (∀ b o, s.heap.get? b = some o → h1.get? b = some o) → (∀ b o, h1.get? b = some o → h'.get? b = some o) → h1.get? l = none → h'.get? l = some (seqObj "list" (ps'.map rf).toArray c) → ps'.Perm qs → ps'.Pairwise (fun p q => HT.lexLt p.2 q.2 = true) → Q (.ref l) { s with heap := h', toks := tk }) :
    wpAny (model prog w) A (call (.builtin "sorted") [r]) Q E s := by
  refine Calls.call_function_entry kind_sorted plain_sorted entry_sorted (args_sorted1 _) ?_
  unfold Builtin.«sorted»
  refine wpAny_bind (m := checkCount "sorted" 1 1 _) (wpAny_pure ?_)
  refine wpAny_bind (col _ _ _ (by simp [hh]) fun h1 tk qs keep1 hc => ?_)
  obtain ⟨tups, hne, nd, h64⟩ := hC h1 qs hc
  refine wpAny_bind (wpAny_newList ?_ (by rw [List.length_map, sizeLine_eq]; omega))
  have hL : (h1.push (seqObj "list" (qs.map rf).toArray 0)).get? h1.objs.size = some (seqObj "list" (qs.map rf).toArray 0) := Heap.get?_push_size _ rfl
  have keep2 : ∀ b o, h1.get? b = some o → (h1.push (seqObj "list" (qs.map rf).toArray 0)).get? b = some o := fun b o e => Heap.get?_push_of_some _ e
  have new1 : h1.get? h1.objs.size = none := by
    cases e : h1.get? h1.objs.size with
    | none => rfl
    | some o' => exact absurd (Heap.lt_size e) (Nat.lt_irrefl _)
  show wpAny _ _ _ _ _ { s with heap := h1.push (seqObj "list" (qs.map rf).toArray 0), toks := tk }
  have tups2 : ∀ p ∈ qs, IsTupleKey (intKind prog w) (h1.push (seqObj "list" (qs.map rf).toArray 0)) p.2 p.1 := fun p hp => key_at (tups p hp) fun o e => keep2 _ o e
  generalize h1.push (seqObj "list" (qs.map rf).toArray 0) = h2 at *
  generalize h1.objs.size = l at hL new1 ⊢
  refine wpAny_bind (wpAny_holding (wpAny_call_entry slot_list_sort ⟨_, hL, rfl⟩ entry_list_sort ?_ (args_list_sort _)))
  refine list_sort_tup (s := { s with heap := h2, toks := tk }) hL tups2 hne nd h64 fun h3 ps' c kp hl3 pm pw => ?_
  refine ⟨_, rfl, wpAny_pure ⟨_, rfl, h h1 qs h3 tk l ps' c hc keep1 (fun b o e => kp b o (fun z => ?_) (keep2 b o e)) new1 hl3 pm pw⟩⟩
  rw [z, new1] at e
  cases e
end
end TB
namespace L2
open PySem PySem.Spec PyProof.Rows TB
section
variable {X : Cx} {pins : List (Addr × Obj)} {σ : St} {H H' : Hp} {s : Shared} {h' : Heap}
/-- several new objects, tracked at once -/
theorem Inv.more {t' : Nat} (I : Inv X pins σ H s) (k : ∀ b u, s.heap.get? b = some u → h'.get? b = some u) (ext : ∀ b o, H b = some o → H' b = some o)
    (new : ∀ b o, H b = none → H' b = some o → s.heap.get? b = none ∧ ObjOk X.prog X.w H' h' b o) : Inv X pins σ H' { s with heap := h', toks := t' } := by
  have fr : ∀ b u, s.heap.get? b = some u → H b = none → H' b = none := fun b u q n => by
    cases e : H' b with
    | none => rfl
    | some o => have z := (new b o n e).1; rw [q] at z; cases z
  refine I.un ⟨fun b u q _ _ _ => k b u q, fun b u q _ _ _ => ⟨u.slots, k b u q⟩, fun b u q n _ => fr b u q n, fun b u q _ => ⟨u, k b u q⟩, fun b xs q => ext _ _ q, fun b o u q => ext _ _ q, fun b ps q => ⟨#[], by rw [ext _ _ q]; simp⟩⟩ fun b u e => ?_
  cases q : H b with
  | none => exact (new b u q e).2
  | some o =>
    have := ext b o q
    rw [this] at e
    cases e
    exact (I.hok b _ q).stay (fun c v _ z => k c v z) (fun c z => ext _ _ z) fun c xs z => ext _ _ z
theorem Inv.untracked (I : Inv X pins σ H s) {a : Addr} (e : s.heap.get? a = none) : H a = none := by
  cases q : H a with
  | none => rfl
  | some o =>
    obtain ⟨ob, h⟩ := (I.hok a o q).obj
    rw [e] at h
    cases h
/-- sorted of a list of tuples -/
def rSortedL (K : PySem.W.Frag) : List V → Hp → VK → Prop := fun xs H Q => ∃ (L : Addr) (ps : List (Addr × List Int)), xs = [.ref L] ∧ SqL K H L (ps.map rv) ∧ (∀ p ∈ ps, SqT K H p.1 (p.2.map V.int)) ∧ (∀ p ∈ ps, p.2 ≠ []) ∧ (ps.map (·.2)).Nodup ∧ ps.length < 64 ∧
  ∀ (l : Addr) (qs : List (Addr × List Int)), H l = none → qs.Perm ps → qs.Pairwise (fun p q => HT.lexLt p.2 q.2 = true) → Q (.ref l) (upd H l (.lst (qs.map rv)))
theorem call_sortedL (hc : X.calm = true) : CallR X (.builtin "sorted") (rSortedL X.K) := by
  intro pins s σ H xs us Q I r h
  obtain ⟨L, ps, rfl, hL, ht, hne, nd, h64, q⟩ := h
  obtain ⟨u, rfl, ru⟩ := vals1 r
  cases ru
  obtain ⟨its, r', pl, hz⟩ := I.list hL
  rw [vals_refs r'] at pl
  refine TB.sorted_of (C := fun h1 qs => qs = ps ∧ ∀ b o, s.heap.get? b = some o → h1.get? b = some o) (I.ok.hd hc) (fun A' E' R ha k => ?_) ?_ fun h1 qs h2 tk l ps' c ⟨e, kp⟩ _ kp2 hle hl pm pw => ?_
  · refine collect_list (vs := ps.map TB.rf) pl.isList ?_ (by rw [List.length_map, sizeLine_eq]; omega)
    have kp : ∀ b o, s.heap.get? b = some o → ((s.heap.push (seqObj "list" #[] 0)).update s.heap.objs.size (Obj.mapSeq (· ++ (ps.map TB.rf).toArray))).get? b = some o := fun b o e => by
      rw [Heap.get?_update_other _ _ (Nat.ne_of_gt (Heap.lt_size e))]
      exact Heap.get?_push_of_some _ e
    exact k _ s.toks ps kp ⟨rfl, kp⟩
  · rintro h1 qs ⟨rfl, kp⟩
    exact ⟨fun p hp => TB.key_at (I.key (ht p hp)) fun o e => kp _ _ e, hne, nd, h64⟩
  · subst e
    have hz : (ps'.map rv).length ≤ sizeLine := by rw [List.length_map, pm.length_eq, sizeLine_eq]; omega
    have kk : ∀ b o, s.heap.get? b = some o → h2.get? b = some o := fun b o e => kp2 _ _ (kp _ _ e)
    have hs0 : s.heap.get? l = none := by
      cases e : s.heap.get? l with
      | none => rfl
      | some o => rw [kp _ _ e] at hle; cases hle
    have hn : H l = none := I.untracked hs0
    exact ⟨.ref l, _, I.more (H' := upd H l (.lst (ps'.map rv))) (t' := tk) kk (Same.new hn _) (fun b o n e => by
      by_cases z : b = l
      · subst z
        rw [upd_same] at e
        cases e
        exact ⟨hs0, hz, ps'.map TB.rf, c, refs_vals ps', hl⟩
      · rw [upd_ne z, n] at e
        cases e), rfl, q _ ps' hn pm pw⟩
end
end L2

namespace L2
open PySem PySem.Spec PyProof.Rows TB PySem.W
theorem mix_int {P : Program} {w : World} {k : Int} {v : Value} (h : (mixKind P w).is (.inl k) v = true) : ∃ t, v = .int k t := by
  have h' : keyIs (.inl k) v = true := h
  cases v <;> simp [keyIs, Value.isInt] at h' <;> first | exact ⟨_, by rw [h']⟩ | skip
section
variable {X : Cx} {pins : List (Addr × Obj)} {σ : St} {H H' : Hp} {s : Shared} {h' : Heap}
end
end L2

namespace L2
open PySem PySem.Spec PySem.W PyProof.Rows TB
section
variable {prog : Program} {w : World} {A : Around} {E : Value → Shared → Prop} {s : Shared}
theorem intsAt_of : ∀ {vs : List Value} {ns : List Int}, vs.length = ns.length → (∀ (j : Nat) (v : Value), vs[j]? = some v → ∃ n t, ns[j]? = some n ∧ v = .int n t) → IntsAre vs ns
  | [], [], _, _ => .nil
  | v :: vs, n :: ns, hl, h => by
    obtain ⟨n', t, e, rfl⟩ := h 0 v rfl
    simp at e
    subst e
    exact .cons _ _ (intsAt_of (by simpa using hl) fun j u hu => h (j + 1) u (by simpa using hu))
  | [], _ :: _, hl, _ => by simp at hl
  | _ :: _, [], hl, _ => by simp at hl
set_option maxHeartbeats 1000000 in
theorem sorted_keys {d : Addr} {kvs : List (Key × Value)} {ks : List Int} {Q : Value → Shared → Prop} (hh : A.handled = none) (lo : (d == sysModules) = false) (hd : s.heap.DictOf (mixKind prog w) d kvs) (hk : kvs.map (·.1) = ks.map Sum.inl) (h64 : ks.length < 64)
    (h : ∀ (h' : Heap) (tk : Nat) (l : Addr) (ns : List Int) (its : List Value) (c : Nat), (∀ b o, s.heap.get? b = some o → h'.get? b = some o) → s.heap.get? l = none → h'.get? l = some (seqObj "list" its.toArray c) → IntsAre its ns → ns.Perm ks → ns.Pairwise (· ≤ ·) → Q (.ref l) { s with heap := h', toks := tk }) :
    wpAny (model prog w) A (call (.builtin "sorted") [.ref d]) Q E s := by
  obtain ⟨ep, dat⟩ := hd.dictAt
  have hlen : kvs.length = ks.length := by have := congrArg List.length hk; simpa using this
  refine Calls.call_function_entry kind_sorted plain_sorted entry_sorted (args_sorted1 _) ?_
  unfold Builtin.«sorted»
  refine wpAny_bind (m := checkCount "sorted" 1 1 _) (wpAny_pure ?_)
  refine wpAny_bind (kdu_collect (kdl_dict (knd := mixKind prog w) (kvs := kvs) (ep := ep) lo) (by simp [hh]) dat (by rw [hlen, sizeLine_eq]; omega) fun h1 tk acc kp it => ?_)
  have hI : IntsAre acc.toList ks := intsAt_of (by rw [Array.length_toList, it.1, hlen]) fun j v hv => by
    obtain ⟨k, x, e1, e2⟩ := it.2 j v (by simpa using hv)
    have e3 : (kvs.map (·.1))[j]? = some k := by rw [List.getElem?_map, e1]; rfl
    rw [hk, List.getElem?_map] at e3
    obtain ⟨n, e4, e5⟩ := Option.map_eq_some_iff.mp e3
    subst e5
    obtain ⟨t, rfl⟩ := mix_int e2
    exact ⟨n, t, e4, rfl⟩
  have hal : acc.toList.length = ks.length := by rw [Array.length_toList, it.1, hlen]
  refine wpAny_bind (wpAny_newList ?_ (by rw [hal, sizeLine_eq]; omega))
  have hL : (h1.push (seqObj "list" acc.toList.toArray 0)).get? h1.objs.size = some (seqObj "list" acc.toList.toArray 0) := Heap.get?_push_size _ rfl
  have new1 : h1.get? h1.objs.size = none := by
    cases e : h1.get? h1.objs.size with
    | none => rfl
    | some o' => exact absurd (Heap.lt_size e) (Nat.lt_irrefl _)
  have keep2 : ∀ b o, h1.get? b = some o → (h1.push (seqObj "list" acc.toList.toArray 0)).get? b = some o := fun b o e => Heap.get?_push_of_some _ e
  show wpAny _ _ _ _ _ { s with heap := h1.push (seqObj "list" acc.toList.toArray 0), toks := tk }
  generalize h1.push (seqObj "list" acc.toList.toArray 0) = h2 at *
  generalize h1.objs.size = l at hL new1 ⊢
  refine wpAny_bind (wpAny_holding (wpAny_call_entry slot_list_sort ⟨_, hL, rfl⟩ entry_list_sort (list_sort_tree (s := { s with heap := h2, toks := tk }) hL hI (by omega) fun out ns' a1 a2 a3 => ⟨_, rfl, ?_⟩) (args_list_sort _)))
  obtain ⟨c, hat⟩ : ∃ c, (sortedHeap h2 l acc.toList out).get? l = some (seqObj "list" out c) := by
    have := sortedHeap_at (out := out) hL
    first | exact ⟨_, this⟩ | exact this
  refine wpAny_pure ⟨_, rfl, h (sortedHeap h2 l acc.toList out) _ l ns' out.toList c (fun b o e => ?_) ?_ hat a1 a2 a3⟩
  · have e2 := keep2 _ _ (kp _ _ e)
    have hne : b ≠ l := fun z => by rw [z] at e; rw [kp _ _ e] at new1; cases new1
    rw [sortedHeap_old hne (Heap.lt_size e2)]
    exact e2
  · cases e : s.heap.get? l with
    | none => rfl
    | some o => rw [kp _ _ e] at new1; cases new1
end
section
variable {X : Cx}
end
section
variable {X : Cx} (K : PySem.W.Frag)
theorem kSortedL (h : X.K = K := by rfl) (hc : X.calm = true := by rfl) : CallR X (.builtin "sorted") (rSortedL K) := h ▸ call_sortedL hc
end
end L2

namespace TB
open PySem PySem.Spec
section
variable {prog : Program} {w : World} {A : Around} {E : Value → Shared → Prop} {s : Shared}
end
end TB
namespace L2
open PySem PySem.Spec PyProof.Rows TB PySem.W
section
variable {prog : Program} {w : World} {A : Around} {E : Value → Shared → Prop} {s : Shared}
variable {I : Addr} {fp wr : List Addr} {n : Nat} {P : Nat → Value → Prop} {St : Nat → Heap → Prop} {R : Result → Shared → Prop}
end
section
variable {X : Cx}
end
section
variable {X : Cx} (K : PySem.W.Frag)
end
end L2

namespace L2
open PySem PySem.Spec PyProof.Rows
/-- new pairs, each turn one -/
def ItE (n : Nat) (f : Nat → List V) : It := ⟨fun i _ => i < n, fun i H v H' => ∃ t, v = .ref t ∧ H t = none ∧ H' = upd H t (.tup (f i)), fun i _ => i = n⟩
section
variable {X : Cx}
/-- the heap has moved at some records of an iterator alone, and perhaps a new tuple has come -/
theorem Inv.moved {pins : List (Addr × Obj)} {σ : St} {H : Hp} {s : Shared} {h' : Heap} {t' : Nat} {ch : List Addr} (I : Inv X pins σ H s) (hf : ∀ c ∈ ch, FpOk X pins H c) (kp : ∀ c o, c ∉ ch → s.heap.get? c = some o → h'.get? c = some o) :
    Inv X pins σ H { s with heap := h', toks := t' } := by
  refine I.step (g' := s.gens) (d' := s.drawn) (t' := t') (ch := ch) (fun c hc => ?_) (fun c o _ _ hc e _ => kp c o hc e) (fun c o _ _ hc e _ => ⟨o.slots, kp c o hc e⟩) (fun c o hc e n => n) (fun c o hc e => ⟨o, kp c o hc e⟩)
    (fun c us e => e) (fun c o us e => e) (fun c us e => ⟨#[], by rw [e]; simp⟩) (fun m hm => ?_) (fun c us e => ?_) I.bare
  · obtain ⟨f0, f1, f2, f3, f4, f5⟩ := hf c hc
    exact ⟨f3, f1, f4, f5⟩
  · obtain ⟨o, es, ep, ho, r⟩ := hm
    exact ⟨o, es, ep, kp _ o (fun q => (hf _ q).2.1 rfl) ho, r⟩
  · refine (I.hok c us e).stay (fun d w' hd q => kp d w' (fun q2 => ?_) q) (fun d q => q) fun d ws q => q
    have z1 := (hf d q2).1
    rcases hd with y1 | y1
    · rw [y1, e] at z1; cases z1
    · rw [y1] at z1; cases z1
theorem turn_ofT {P : Program} {w : World} {K : PySem.W.Frag} {elts : List Expr} {k : Nat} {pos : Pos} {it : Addr} {fp wr : List Addr} {n : Nat} {Pt : Nat → Array Value → Prop} {St : Nat → Heap → Prop} {Mid : Nat → Addr → Heap → Prop} {f : Nat → List V}
    (W : ∀ A : Around, A.handled = none → WalksT P w A it fp wr n Pt St Mid) (frm : ∀ i h h', St i h → (∀ b ∈ fp, ∀ o, h.get? b = some o → h'.get? b = some o) → St i h') (hm : it ∈ fp) (hobj : ∀ i h, St i h → ∀ b ∈ fp, ∃ o, h.get? b = some o ∧ ∀ v, o.data ≠ .cell v) (hv : ∀ i vals, Pt i vals → Vals (f i) vals.toList) (hz : ∀ i, (f i).length ≤ 1000)
    (self : ∀ (A : Around) (i : Nat) (s : Shared) (Q : Value → Shared → Prop) (E : Value → Shared → Prop), St i s.heap → Q (.ref it) s → wpAny (model P w) A (pyIter (.ref it)) Q E s) :
    Turn P w K (.Tuple elts k pos) (ItE n f) fp it St where
  mem := hm
  obj := hobj
  keep := frm
  item := by
    intro X hP hw hK hc i pins s σ H E I hf st hg
    subst hP hw hK
    have W' := W X.A (I.ok.hd hc)
    have hfw : ∀ c ∈ wr, FpOk X pins H c := fun c hc => hf c (W'.sub c hc)
    refine W'.item i s _ E hg st fun T vals h1 tk hp hle hT mid k1 => ⟨_, rfl, W'.go _ _ _ i T _ _ E mid fun h2 st2 k2 => ?_⟩
    have hTw := W'.apart i T h1 mid
    have kp : ∀ c o, c ∉ wr → s.heap.get? c = some o → h2.get? c = some o := fun c o hc e => k2 c o hc (k1 c o hc e)
    have I1 : Inv X pins σ H { s with heap := h2, toks := tk } := I.moved hfw kp
    have hsz : ∀ c o, s.heap.get? c = some o → c ≠ T := fun c o e z => absurd (Heap.lt_size e) (by rw [z]; exact Nat.not_lt_of_le hle)
    have fr : H T = none := I.hok.fresh hle
    obtain ⟨o, ho, hcl, m, hd⟩ := hT
    have ho2 : h2.get? T = some o := k2 T o hTw ho
    have I2 : Inv X pins σ (upd H T (.tup (f i))) { s with heap := h2, toks := tk } := by
      refine I.step (g' := s.gens) (d' := s.drawn) (t' := tk) (ch := wr) (fun c hc => ?_) (fun c o _ _ hc e _ => kp c o hc e) (fun c o _ _ hc e _ => ⟨o.slots, kp c o hc e⟩) (fun c o hc e n => ?_) (fun c o hc e => ⟨o, kp c o hc e⟩)
        (fun c us e => ?_) (fun c o us e => ?_) (fun c us e => ⟨#[], ?_⟩) (fun m hm => ?_) (fun c us e => ?_) I.bare
      · obtain ⟨f0, f1, f2, f3, f4, f5⟩ := hfw c hc
        exact ⟨f3, f1, f4, f5⟩
      · rw [upd_ne (hsz c o e)]; exact n
      · rw [upd_ne (ne_of_none e fr)]; exact e
      · rw [upd_ne (ne_of_none e fr)]; exact e
      · rw [upd_ne (ne_of_none e fr), e]; simp
      · obtain ⟨o, es, ep, ho, r⟩ := hm
        exact ⟨o, es, ep, kp _ o (fun q => (hfw _ q).2.1 rfl) ho, r⟩
      · by_cases hcT : c = T
        · subst hcT
          rw [upd_same] at e
          cases e
          exact ⟨Nat.le_trans (hz i) (by decide), vals.toList, hv i vals hp, o, ho2, hcl, m, by simpa using hd⟩
        · rw [upd_ne hcT] at e
          refine (I.hok c us e).stay (fun d w' hd q => kp d w' (fun q2 => ?_) q) (fun d q => ?_) fun d ws q => ?_
          · have z1 := (hfw d q2).1
            rcases hd with y1 | y1
            · rw [y1, e] at z1; cases z1
            · rw [y1] at z1; cases z1
          · rw [upd_ne (ne_of_none q fr)]; exact q
          · rw [upd_ne (ne_of_none q fr)]; exact q
    refine ⟨.ref T, _, I2, rfl, ⟨T, rfl, fr, rfl⟩, st2, fun c hc => ?_⟩
    obtain ⟨oc, hoc, _⟩ := hobj i _ st c hc
    rw [upd_ne (hsz c oc hoc)]
    exact (hf c hc).1
  done := by
    intro X hP hw hK hc i pins s σ H E I hf st hg
    subst hP hw hK
    have hi : i = n := hg
    subst hi
    have W' := W X.A (I.ok.hd hc)
    exact W'.done s _ E st fun h' tk kk => ⟨rfl, I.moved (fun c hc => hf c (W'.sub c hc)) fun c o hc e => kk c o hc e⟩
  self := self
end
section
variable {X : Cx}
theorem strIter_ascii {y : Str} (ha : y.cps.all (· < 128) = true) : strIterType y = "str_ascii_iterator" := by
  unfold strIterType
  first | rw [if_pos ha] | (rw [if_pos]; exact ha) | simp_all
theorem turn_enumS {P : Program} {w : World} {K : PySem.W.Frag} {elts : List Expr} {k : Nat} {pos : Pos} (e it : Addr) (hei : e ≠ it) (y : Str) (tk : Tok) :
    Turn P w K (.Tuple elts k pos) (ItE y.cps.size fun i => [.int (i : Int), signAt y i]) [e, it] e (fun i h => (∃ old, IsEnum h e it i old) ∧ h.IsStrIter it "str_ascii_iterator" y tk i) := by
  refine turn_ofT (fp := e :: [it]) (fun A hh => WalksT.enumerateD (Draws.strAscii (by simp [hh]) it y tk) e hei (by simpa using hei) (by simp)) (fun i h h' st kk => ?_) (by simp) (fun i h st b hb => ?_) (fun i vals hp => ?_) (fun i => (by show 2 ≤ 1000; decide)) fun A i s Q E st q => ?_
  · obtain ⟨⟨old, he⟩, o, ho, r⟩ := st
    exact ⟨⟨old, kk e (by simp) _ he⟩, o, kk it (by simp) _ ho, r⟩
  · obtain ⟨⟨old, he⟩, o, ho, hc, hd⟩ := st
    rcases List.mem_cons.mp hb with rfl | hb
    · exact ⟨_, he, fun v z => nomatch z⟩
    · rw [List.mem_singleton.mp hb]
      exact ⟨o, ho, fun v z => by rw [hd] at z; cases z⟩
  · obtain ⟨t, x, ⟨c, u, hc, rfl⟩, rfl⟩ := hp
    refine .cons ⟨t, rfl⟩ (.cons ⟨u, ?_⟩ .nil)
    have : y.cps.getD i 0 = c := by rw [Array.getD_eq_getD_getElem?, hc]; rfl
    rw [this]
  · obtain ⟨⟨old, he⟩, _⟩ := st
    exact wpAny_pyIter_enum he q
def iEnumS (ta : TA) : TI := fun σ H R => ta σ H fun vs H1 => ∃ y, vs = [.str y] ∧ y.cps.all (· < 128) = true ∧ R (ItE y.cps.size fun i => [.int (i : Int), signAt y i]) H1
theorem pi_enumS {elts : List Expr} {k : Nat} {tpos : Pos} {a : Expr} {ta : TA} {p pos : Pos} (hm : X.mg "enumerate" = none) (ha : PA X [a] ta) (hg : Gl X "enumerate" := by rfl) (hs : starEach [a] X.env = [(false, eval a X.env)] := by rfl) :
    PI X (.Tuple elts k tpos) (.Call (.Name "enumerate" p) [a] [] pos) (iEnumS ta) := by
  intro pins s σ H R I h
  refine Call_ (ld_blt I hg hm boot_enumerate (PyProof.Rows.callWith_type1 (rest := []) (thn (ha pos pins s σ H _ I h) fun us s1 ⟨vs, H1, I1, r1, q1⟩ => ?_) (by rw [hs]; rfl) rfl))
  obtain ⟨y, e, hasc, q⟩ := q1
  subst e
  obtain ⟨u, rfl, ru⟩ := vals1 r1
  obtain ⟨tk, rfl⟩ := ru
  refine call_enumerate_str fun h' a1 a2 hsz kk => wpAny_pyIter_enum a1 ?_
  rw [strIter_ascii hasc] at a2
  refine ⟨s1.heap.objs.size + 1, [s1.heap.objs.size + 1, s1.heap.objs.size], _, _, H1, rfl, I1.kept (t' := s1.toks) kk, turn_enumS _ _ (Nat.succ_ne_self _) y tk, ⟨⟨_, a1⟩, a2⟩, fun b hb => ?_, q⟩
  have hl : s1.heap.objs.size ≤ b := by
    rcases List.mem_cons.mp hb with h | h
    · rw [h]; exact Nat.le_succ _
    · rw [List.mem_singleton.mp h]; exact Nat.le_refl _
  exact I1.fpOk hl (I1.hok.fresh hl)
end
end L2

namespace L2
open PySem PySem.Spec PyProof.Rows TB
def teNever : TE := fun _ _ _ => False
def ttNever : TT := fun _ _ _ => False

section
variable {X : Cx}
theorem pe_never {e : Expr} : PE X e teNever := fun _ _ _ _ _ _ h => h.elim
theorem pt_never {e : Expr} : PT X e ttNever := fun _ _ _ _ _ _ h => h.elim

end
def rawE (h : Heap) (a : Addr) : Prop := (a == sysModules) = false ∧ ∃ o, h.get? a = some o ∧ o.ExactDict ∧ o.data = .dict #[] 0
def emptyD (a : Addr) : HO := .ext fun h => rawE h a
theorem emptyD_ok {P : Program} {w : World} {H : Hp} {h : Heap} {a : Addr} (x : rawE h a) : ObjOk P w H h a (emptyD a) := by
  obtain ⟨x0, o, ho, r⟩ := id x
  refine ⟨x, ⟨o, ho⟩, fun h1 h2 y k => ?_⟩
  obtain ⟨y0, o1, ho1, r1⟩ := y
  exact ⟨y0, o1, k _ ho1, r1⟩
theorem dictAt_nil {P : Program} {w : World} {h : Heap} {a : Addr} {o : Obj} {ep : Nat} (ho : h.get? a = some o) (e1 : o.ExactDict) (e2 : o.data = .dict #[] ep) : h.DictAt (mixKind P w) a [] ep := by
  obtain ⟨o1, es, ep1, ho1, x1, x2, x3, x4, x5⟩ := (Heap.DictOf.new (knd := mixKind P w) h)
  rw [Heap.get?_push_size _ rfl] at ho1
  cases ho1
  cases x2
  exact ⟨o, #[], ho, e1, e2, x3, x4, x5⟩
section
variable {X : Cx} {pos : Pos}
def tENew : TE := fun _ H Q => ∀ p, H p = none → Q (.ref p) (upd H p (emptyD p))
theorem kENew : PE X (.Dict [] [] pos) tENew := by
  intro pins s σ H Q I h
  have raw : rawE (s.heap.push { cls := .type "dict", data := .dict #[] }) s.heap.objs.size := ⟨beq_eq_false_iff_ne.mpr (Ne.symm (Nat.ne_of_lt I.big)), _, Heap.get?_push_size _ rfl, ⟨rfl, rfl, rfl⟩, rfl⟩
  exact wpAny_Dict_empty ⟨.ref s.heap.objs.size, _, I.laid (a := s.heap.objs.size) (o := emptyD s.heap.objs.size) (t' := s.toks) (fun _ _ q => Heap.get?_push_of_some _ q) (Nat.le_refl _) (emptyD_ok raw), rfl, h _ (I.hok.fresh (Nat.le_refl _))⟩
def ItN (a : Addr) : It := ⟨fun _ _ => False, fun _ _ _ _ => False, fun i H => i = 0 ∧ H a = some (emptyD a)⟩
theorem turn_emp {P : Program} {w : World} {K : PySem.W.Frag} {tg : Expr} (a it : Addr) : Turn P w K tg (ItN a) [it] it (fun i h => h.IsKeyIter it a i 0 0) where
  mem := by simp
  obj := fun i h st b hb => by
    have e : b = it := by simpa using hb
    subst e
    obtain ⟨o, e, c, d⟩ := st
    exact ⟨o, e, fun v z => by rw [d] at z; cases z⟩
  keep := fun i h h' st k => st.at fun o e => k it (by simp) o e
  item := by
    intro X hP hw hK hc i pins s σ H E I hf st hg
    exact hg.elim
  done := by
    intro X hP hw hK hc i pins s σ H E I hf st hg
    subst hP hw hK
    obtain ⟨rfl, ha⟩ := hg
    obtain ⟨⟨x0, o, ho, e1, e2⟩, _⟩ := (show ObjOk X.prog X.w H s.heap a (emptyD a) from I.hok a _ ha)
    obtain ⟨f0, f1, f2, f3, f4, f5⟩ := hf it (by simp)
    exact wpAny_pyNext_dict_end (knd := mixKind X.prog X.w) (kvs := []) (I.ok.hd hc) st (dictAt_nil ho e1 e2) rfl fun h' eb => ⟨rfl, I.turned (t' := s.toks) (fun b o hb e => eb b o hb e) f0 f1 f3 f4 f5⟩
  self := fun _ _ _ _ _ st h => wpAny_pyIter_keyiter st h
def iEmp (ta : TE) : TI := fun σ H R => ta σ H fun x H1 => ∃ a, x = .ref a ∧ H1 a = some (emptyD a) ∧ R (ItN a) H1
theorem kiEmp {tg l : Expr} {tl : TE} (hl : PE X l tl) : PI X tg l (iEmp tl) := by
  intro pins s σ H R I h
  refine thn (hl pins s σ H _ I h) fun v s1 ⟨x, H1, I1, r1, q1⟩ => ?_
  obtain ⟨a, e, ha, q⟩ := q1
  subst e
  cases r1
  obtain ⟨⟨x0, o, ho, e1, e2⟩, _⟩ := (show ObjOk X.prog X.w H1 s1.heap a (emptyD a) from I1.hok a _ ha)
  refine wpAny_pyIter_dict (knd := mixKind X.prog X.w) (kvs := []) x0 (dictAt_nil ho e1 e2) ?_
  refine ⟨s1.heap.objs.size, [s1.heap.objs.size], _, _, H1, rfl, I1.kept (t' := s1.toks) fun b o e => Heap.get?_push_of_some _ e, turn_emp a _, ⟨_, Heap.get?_push_size _ rfl, rfl, rfl⟩, fun b hb => ?_, q⟩
  have e : b = s1.heap.objs.size := by simpa using hb
  subst e
  exact I1.fpOk (Nat.le_refl _) (I1.hok.fresh (Nat.le_refl _))
def rDictE (K : PySem.W.Frag) (P : Program) (w : World) : List V → Hp → VK → Prop := fun xs H Q => ∃ a, xs = [.ref a] ∧ H a = some (emptyD a) ∧ ∀ p o, H p = none → NMap K P w (upd H p o) p (fun _ => none) 0 → Q (.ref p) (upd H p o)
theorem pairs_nil {P : Program} {w : World} {es : List DictEntry} (h : Pairs (mixKind P w) es []) : es = [] := by
  cases es with
  | nil => rfl
  | cons e es => exact absurd h.length (by simp)
theorem kDictE (K : PySem.W.Frag) (P : Program) (w : World) (hK : X.K = K := by rfl) (hP : X.prog = P := by rfl) (hw : X.w = w := by rfl) : CallR X (.type "dict") (rDictE K P w) := by
  subst hK; subst hP; subst hw
  intro pins s σ H xs us Q I r h
  obtain ⟨a, rfl, ha, q⟩ := h
  obtain ⟨u, rfl, ru⟩ := vals1 r
  cases ru
  obtain ⟨⟨x0, o, ho, e1, e2⟩, _⟩ := (show ObjOk X.prog X.w H s.heap a (emptyD a) from I.hok a _ ha)
  refine kt_call_dict (knd := mixKind X.prog X.w) x0 (dictAt_nil ho e1 e2).dictOf (by simp) fun h' dd hs => ?_
  obtain ⟨o', es, ep, ho', x1, x2, x3, x4, x5⟩ := dd
  have raw : rawN X.prog X.w h' s.heap.objs.size [] := ⟨beq_eq_false_iff_ne.mpr (Ne.symm (Nat.ne_of_lt I.big)), o', es, ep, ho', x1, x2, pairs_nil x4, List.nodup_nil⟩
  exact ⟨.ref s.heap.objs.size, _, I.laid (a := s.heap.objs.size) (o := dictN X.prog X.w s.heap.objs.size []) (t' := s.toks) (fun b q hq => (hs.2 b (Nat.ne_of_lt (Heap.lt_size hq))).trans (Heap.get?_push_of_some _ hq)) (Nat.le_refl _) (dictN_ok raw), rfl, q _ _ (I.hok.fresh (Nat.le_refl _)) ⟨[], upd_same, Nat.le_refl _, fun x hx => absurd hx (by simp), fun k => True.intro⟩⟩
def rSortedE (P : Program) (w : World) : List V → Hp → VK → Prop := fun xs H Q => ∃ a, xs = [.ref a] ∧ H a = some (dictO P w a []) ∧ ∀ l, H l = none → Q (.ref l) (upd H l (.lst []))
theorem kSortedE (P : Program) (w : World) (hP : X.prog = P := by rfl) (hw : X.w = w := by rfl) (hc : X.calm = true := by rfl) : CallR X (.builtin "sorted") (rSortedE P w) := by
  subst hP; subst hw
  intro pins s σ H xs us Q I r h
  obtain ⟨a, rfl, ha, q⟩ := h
  obtain ⟨u, rfl, ru⟩ := vals1 r
  cases ru
  obtain ⟨⟨x0, o, es, ep, ho, e1, e2, e3, e4⟩, _⟩ := (show ObjOk X.prog X.w H s.heap a (dictO X.prog X.w a []) from I.hok a _ ha)
  have ee : es = #[] := by
    cases es
    simp at e3
    rw [e3]
  subst ee
  refine sorted_keys (ks := []) (I.ok.hd hc) x0 (dictAt_nil ho e1 e2).dictOf rfl (by decide) fun h' tk l ns its c kp hl hat hi pm pw => ?_
  have hn : H l = none := I.untracked hl
  have e : ns = [] := by have := pm.length_eq; simpa using this
  subst e
  exact ⟨.ref l, _, I.more (H' := upd H l (.lst [])) (t' := tk) kp (Same.new hn _) (fun b o n e => by
    by_cases z : b = l
    · subst z
      rw [upd_same] at e
      cases e
      exact ⟨hl, (by show 0 ≤ sizeLine; decide), its, c, vals_ints (ns := []) hi, hat⟩
    · rw [upd_ne z, n] at e
      cases e), rfl, q _ hn⟩
end
section
variable {K : PySem.W.Frag} {ix : List (Option Nat)} {g : TG} {tf : TT} {te : TE} {σ : St} {H H1 : Hp} {Q : Addr → Hp → Prop} {a : Addr}
theorem comp_nil (hq : SqL K H1 a []) (hd : ∀ D H, H1 D = none → Same H1 H → H D = some (.lst []) → Q D H) : CompW (Itl K a) ix g tf te σ H1 Q :=
  comp_list hq (Nat.zero_le _) (fun _ _ _ => True) (fun D hD => True.intro) (fun D i x ys H R1 R0 hD hx => absurd hx (by simp)) fun D ys H hD sm hDl hl _ => by
    have e : ys = [] := by simpa using hl
    subst e
    exact hd D H hD sm hDl
theorem comp_emp (ha : H1 a = some (emptyD a)) (hd : ∀ D H, H1 D = none → Same H1 H → H D = some (.lst []) → Q D H) : CompW (ItN a) ix g tf te σ H1 Q := by
  intro D hD
  refine ⟨fun i m ys H => i = 0 ∧ ys = [] ∧ Same H1 H, ⟨0, rfl, rfl, Same.new hD _⟩, ?_⟩
  rintro i m ys H ⟨rfl, rfl, sm⟩ hDl
  exact .inl ⟨⟨rfl, sm _ _ ha⟩, hd D H hD sm hDl⟩
theorem tcompE {ta : TE} {R : VK} (h : Gv ta σ H (.ref a)) (ha : H a = some (emptyD a)) (k : ∀ H', Same H H' → H' a = some (emptyD a) → CompW (ItN a) ix g tf te σ H' fun D' H2 => R (.ref D') H2) : tComp (iEmp ta) ix g tf te σ H R := h _ fun H' s => ⟨a, rfl, s _ _ ha, k H' s (s _ _ ha)⟩
theorem tcompNil {ta : TE} {R : VK} (h : Gv ta σ H (.ref a)) (hq : SqL K H a []) (k : ∀ D H', H D = none → Same H H' → H' D = some (.lst []) → R (.ref D) H') : tComp (iList K ta) ix g tf te σ H R :=
  tcompL h hq fun H1 s1 hq1 => comp_nil hq1 fun D H2 hD s2 hDl => k D H2 (s1.free hD) (s1.trans s2) hDl
theorem tcompEmp {ta : TE} {R : VK} (h : Gv ta σ H (.ref a)) (ha : H a = some (emptyD a)) (k : ∀ D H', H D = none → Same H H' → H' D = some (.lst []) → R (.ref D) H') : tComp (iEmp ta) ix g tf te σ H R :=
  tcompE h ha fun H1 s1 ha1 => comp_emp ha1 fun D H2 hD s2 hDl => k D H2 (s1.free hD) (s1.trans s2) hDl
theorem rq_scNil {ta : TE} {us : TS} {D : Ends} {n : Nat} (h : Gv ta σ H (.ref a)) (hq : SqL K H a []) (k : ∀ Z H', H Z = none → Same H H' → H' Z = some (.lst []) → us D (σ.set n (some (.ref Z))) H') : tSeq (tSetComp n (iList K ta) ix g tf te) us D σ H :=
  rs_seq (rs_scL h hq fun H1 s1 hq1 => comp_nil hq1 fun Z H2 hZ s2 hl => k Z H2 (s1.free hZ) (s1.trans s2) hl)
theorem rs_forNil {ta : TE} {tb : TS} {D : Ends} (h : Gv ta σ H (.ref a)) (hq : SqL K H a []) (k : ∀ H', Same H H' → D.nx σ H') : tFor (iList K ta) g tb D σ H :=
  h _ fun H' s => ⟨a, rfl, ⟨[], s.seq hq⟩, for_list (xs := []) (fun _ σ' H2 => σ' = σ ∧ Same H H2) ⟨rfl, s⟩ (fun i σ' H2 _ p => p.2.seq hq) (fun i x σ' H2 hx => absurd hx (by simp)) fun σ' H2 p => by rw [p.1]; exact k H2 p.2⟩
theorem rq_forNil {ta : TE} {tb us : TS} {D : Ends} (h : Gv ta σ H (.ref a)) (hq : SqL K H a []) (k : ∀ H', Same H H' → us D σ H') : tSeq (tFor (iList K ta) g tb) us D σ H := rs_forNil (D := { D with nx := us D }) h hq k
/-- over the signs of a text, with their places -/
theorem rs_forE {tt : TA} {tb : TS} {D : Ends} {y : Str} {i₀ j₀ : Nat} (h : Ga tt σ H [.str y]) (ha : y.cps.all (· < 128) = true) (Pv : Nat → St → Hp → Prop) (h0 : ∀ H', Same H H' → Pv 0 σ H')
    (hs : ∀ i σ H tp, i < y.cps.size → Pv i σ H → H tp = none → tb { D with nx := Pv (i + 1), ct := Pv (i + 1), bk := D.nx } ((σ.set i₀ (some (.int (i : Int)))).set j₀ (some (signAt y i))) (upd H tp (.tup [.int (i : Int), signAt y i]))) (hd : ∀ σ H, Pv y.cps.size σ H → D.nx σ H) :
    tFor (iEnumS tt) (gTup K 2 (gCons (gName i₀) (gCons (gName j₀) gNil))) tb D σ H := by
  refine h _ fun H' s => ⟨y, rfl, ha, ?_⟩
  refine ⟨fun i m σ H => m = y.cps.size - i ∧ i ≤ y.cps.size ∧ Pv i σ H, ⟨y.cps.size, by simp, Nat.zero_le _, h0 H' s⟩, ?_⟩
  rintro i m σ H ⟨rfl, hi, p⟩
  by_cases hlt : i < y.cps.size
  · refine .inr ⟨hlt, Pv (i + 1), fun σ' H' p' => ⟨y.cps.size - (i + 1), by omega, rfl, hlt, p'⟩, fun v H' z => ?_⟩
    obtain ⟨tp, rfl, ht, rfl⟩ := z
    exact ⟨tp, _, rfl, SqT.of upd_same, rfl, _, _, rfl, _, _, rfl, rfl, hs i σ H tp hlt p ht⟩
  · have e : i = y.cps.size := by omega
    subst e
    exact .inl ⟨rfl, hd σ H p⟩
theorem rq_forE {tt : TA} {tb us : TS} {D : Ends} {y : Str} {i₀ j₀ : Nat} (h : Ga tt σ H [.str y]) (ha : y.cps.all (· < 128) = true) (Pv : Nat → St → Hp → Prop) (h0 : ∀ H', Same H H' → Pv 0 σ H')
    (hs : ∀ i σ H tp, i < y.cps.size → Pv i σ H → H tp = none → tb { D with nx := Pv (i + 1), ct := Pv (i + 1), bk := us D } ((σ.set i₀ (some (.int (i : Int)))).set j₀ (some (signAt y i))) (upd H tp (.tup [.int (i : Int), signAt y i]))) (hd : ∀ σ H, Pv y.cps.size σ H → us D σ H) :
    tSeq (tFor (iEnumS tt) (gTup K 2 (gCons (gName i₀) (gCons (gName j₀) gNil))) tb) us D σ H := rs_forE (D := { D with nx := us D }) h ha Pv h0 hs hd
end
/-- a tuple of the text's own -/
def KTup (K : PySem.W.Frag) (a : Addr) (xs : List V) : Prop := ∃ (o : Obj) (its : Array Value) (n : Nat), K.lookup a = some o ∧ o.cls = .type "tuple" ∧ o.data = .seq its n ∧ its.size ≤ sizeLine ∧ Vals xs its.toList
theorem KTup.sq {K : PySem.W.Frag} {H : Hp} {a : Addr} {xs : List V} (h : KTup K a xs) : SqT K H a xs := .inr h
end L2

namespace K41
open PySem PySem.Spec PyProof.Rows L2

def top (i : Nat) : Stmt := PySem.Challenge.pw_quiltyard_k41_too_many_marks.main.body.getD i (.Pass ⟨0, 0, 0, 0⟩)
abbrev s_are_letters : Stmt := top 9
abbrev s_are_fields : Stmt := top 14
abbrev s_rises : Stmt := top 15
abbrev s_is_system : Stmt := top 16
abbrev s_look_system : Stmt := top 17
abbrev s_mirrored_tiles : Stmt := top 18
abbrev s_look_together : Stmt := top 21
abbrev s_look_both : Stmt := top 22
abbrev s_each_once : Stmt := top 23
abbrev s_moved_field : Stmt := top 24
abbrev s_moved_tiles : Stmt := top 25
abbrev s_stood_tiles : Stmt := top 26
abbrev s_either : Stmt := top 27
abbrev s_pairs_of_marks : Stmt := top 28
abbrev s_face_of : Stmt := top 29
abbrev s_tiles_by_face : Stmt := top 30
abbrev s_paired_tiles : Stmt := top 31
abbrev s_meeting : Stmt := top 32
abbrev s_left_of : Stmt := top 33
abbrev s_right_of : Stmt := top 34
abbrev s_is_seam : Stmt := top 35
abbrev s_seam_tiles : Stmt := top 36
abbrev s_beside_tiles : Stmt := top 37
abbrev s_beside_of : Stmt := top 38
abbrev s_over_of : Stmt := top 39
abbrev s_mirrored_of : Stmt := top 40
abbrev s_stood_system : Stmt := top 41
abbrev s__law_cell : Stmt := top 43
abbrev s__law_mix : Stmt := top 44
abbrev s__law_refusal : Stmt := top 45
abbrev s__law_told : Stmt := top 46
abbrev s_law : Stmt := top 47
structure Ad where
  f_are_letters : Addr
  d_are_letters : FuncData
  f_are_fields : Addr
  d_are_fields : FuncData
  f_rises : Addr
  d_rises : FuncData
  f_is_system : Addr
  d_is_system : FuncData
  f_look_system : Addr
  d_look_system : FuncData
  f_mirrored_tiles : Addr
  d_mirrored_tiles : FuncData
  f_look_together : Addr
  d_look_together : FuncData
  f_look_both : Addr
  d_look_both : FuncData
  f_each_once : Addr
  d_each_once : FuncData
  f_moved_field : Addr
  d_moved_field : FuncData
  f_moved_tiles : Addr
  d_moved_tiles : FuncData
  f_stood_tiles : Addr
  d_stood_tiles : FuncData
  f_either : Addr
  d_either : FuncData
  f_pairs_of_marks : Addr
  d_pairs_of_marks : FuncData
  f_face_of : Addr
  d_face_of : FuncData
  f_tiles_by_face : Addr
  d_tiles_by_face : FuncData
  f_paired_tiles : Addr
  d_paired_tiles : FuncData
  f_meeting : Addr
  d_meeting : FuncData
  f_left_of : Addr
  d_left_of : FuncData
  f_right_of : Addr
  d_right_of : FuncData
  f_is_seam : Addr
  d_is_seam : FuncData
  f_seam_tiles : Addr
  d_seam_tiles : FuncData
  f_beside_tiles : Addr
  d_beside_tiles : FuncData
  f_beside_of : Addr
  d_beside_of : FuncData
  f_over_of : Addr
  d_over_of : FuncData
  f_mirrored_of : Addr
  d_mirrored_of : FuncData
  f_stood_system : Addr
  d_stood_system : FuncData
  f__law_cell : Addr
  d__law_cell : FuncData
  f__law_mix : Addr
  d__law_mix : FuncData
  f__law_refusal : Addr
  d__law_refusal : FuncData
  f__law_told : Addr
  d__law_told : FuncData
  f_law : Addr
  d_law : FuncData
  u_LETTERS : Value
  u_BORDER : Value
  u_MOST_MARKS : Value
  u_TILE_FIELDS : Value
  e_EDGE : Addr
  c_QuiltError : Addr
  c_BadPicture : Addr
  c_BadSize : Addr
  c_BadSystem : Addr
  c_BadText : Addr
  c_Unlike : Addr
structure Txt (K : PySem.W.Frag) (mg : Str → Option Value) (t : Ad) : Prop where
  are_letters : Def K mg "are_letters" s_are_letters t.f_are_letters t.d_are_letters ["text"]
  are_fields : Def K mg "are_fields" s_are_fields t.f_are_fields t.d_are_fields ["fields", "many", "marks"]
  rises : Def K mg "rises" s_rises t.f_rises t.d_rises ["tiles"]
  is_system : Def K mg "is_system" s_is_system t.f_is_system t.d_is_system ["system"]
  look_system : Def K mg "look_system" s_look_system t.f_look_system t.d_look_system ["system"]
  mirrored_tiles : Def K mg "mirrored_tiles" s_mirrored_tiles t.f_mirrored_tiles t.d_mirrored_tiles ["tiles"]
  look_together : Def K mg "look_together" s_look_together t.f_look_together t.d_look_together ["marks"]
  look_both : Def K mg "look_both" s_look_both t.f_look_both t.d_look_both ["one", "other"]
  each_once : Def K mg "each_once" s_each_once t.f_each_once t.d_each_once ["tiles"]
  moved_field : Def K mg "moved_field" s_moved_field t.f_moved_field t.d_moved_field ["field", "by"]
  moved_tiles : Def K mg "moved_tiles" s_moved_tiles t.f_moved_tiles t.d_moved_tiles ["tiles", "by"]
  stood_tiles : Def K mg "stood_tiles" s_stood_tiles t.f_stood_tiles t.d_stood_tiles ["tiles"]
  either : Def K mg "either" s_either t.f_either t.d_either ["one", "other"]
  pairs_of_marks : Def K mg "pairs_of_marks" s_pairs_of_marks t.f_pairs_of_marks t.d_pairs_of_marks ["one", "other"]
  face_of : Def K mg "face_of" s_face_of t.f_face_of t.d_face_of ["letters", "tile"]
  tiles_by_face : Def K mg "tiles_by_face" s_tiles_by_face t.f_tiles_by_face t.d_tiles_by_face ["system"]
  paired_tiles : Def K mg "paired_tiles" s_paired_tiles t.f_paired_tiles t.d_paired_tiles ["one", "other", "marks"]
  meeting : Def K mg "meeting" s_meeting t.f_meeting t.d_meeting ["one", "other"]
  left_of : Def K mg "left_of" s_left_of t.f_left_of t.d_left_of ["tile"]
  right_of : Def K mg "right_of" s_right_of t.f_right_of t.d_right_of ["tile"]
  is_seam : Def K mg "is_seam" s_is_seam t.f_is_seam t.d_is_seam ["left", "right"]
  seam_tiles : Def K mg "seam_tiles" s_seam_tiles t.f_seam_tiles t.d_seam_tiles ["tiles", "others"]
  beside_tiles : Def K mg "beside_tiles" s_beside_tiles t.f_beside_tiles t.d_beside_tiles ["tiles", "others"]
  beside_of : Def K mg "beside_of" s_beside_of t.f_beside_of t.d_beside_of ["one", "other"]
  over_of : Def K mg "over_of" s_over_of t.f_over_of t.d_over_of ["one", "other"]
  mirrored_of : Def K mg "mirrored_of" s_mirrored_of t.f_mirrored_of t.d_mirrored_of ["system"]
  stood_system : Def K mg "stood_system" s_stood_system t.f_stood_system t.d_stood_system ["system"]
  _law_cell : Def K mg "_law_cell" s__law_cell t.f__law_cell t.d__law_cell ["_law_script", "_law_k"]
  _law_mix : Def K mg "_law_mix" s__law_mix t.f__law_mix t.d__law_mix ["_law_script", "_law_k"]
  _law_refusal : Def K mg "_law_refusal" s__law_refusal t.f__law_refusal t.d__law_refusal ["_law_kept"]
  _law_told : Def K mg "_law_told" s__law_told t.f__law_told t.d__law_told ["_law_way", "_law_one", "_law_other"]
  law : Def K mg "law" s_law t.f_law t.d_law ["_law_script"]
  m_LETTERS : mg "LETTERS" = some t.u_LETTERS
  v_LETTERS : RelV (.str "abcd") t.u_LETTERS
  m_BORDER : mg "BORDER" = some t.u_BORDER
  v_BORDER : RelV (.int (-1)) t.u_BORDER
  m_MOST_MARKS : mg "MOST_MARKS" = some t.u_MOST_MARKS
  v_MOST_MARKS : RelV (.int 16) t.u_MOST_MARKS
  m_TILE_FIELDS : mg "TILE_FIELDS" = some t.u_TILE_FIELDS
  v_TILE_FIELDS : RelV (.int 4) t.u_TILE_FIELDS
  m_EDGE : mg "EDGE" = some (.ref t.e_EDGE)
  q_EDGE : KTup K t.e_EDGE [.int (-1), .int (-1)]
  m_QuiltError : mg "QuiltError" = some (.ref t.c_QuiltError)
  m_BadPicture : mg "BadPicture" = some (.ref t.c_BadPicture)
  m_BadSize : mg "BadSize" = some (.ref t.c_BadSize)
  m_BadSystem : mg "BadSystem" = some (.ref t.c_BadSystem)
  m_BadText : mg "BadText" = some (.ref t.c_BadText)
  m_Unlike : mg "Unlike" = some (.ref t.c_Unlike)
  x_BadSystem : ExcCl K mg "BadSystem" t.c_BadSystem
  i_BadSystem : ExcIs K t.c_BadSystem
  k_BadSystem_BadPicture : PySem.W.kitOne K (.ref t.c_BadSystem) (.ref t.c_BadPicture) = some false
  k_BadSystem_BadSize : PySem.W.kitOne K (.ref t.c_BadSystem) (.ref t.c_BadSize) = some false
  k_BadSystem_BadSystem : PySem.W.kitOne K (.ref t.c_BadSystem) (.ref t.c_BadSystem) = some true
  k_BadSystem_BadText : PySem.W.kitOne K (.ref t.c_BadSystem) (.ref t.c_BadText) = some false
  k_BadSystem_Unlike : PySem.W.kitOne K (.ref t.c_BadSystem) (.ref t.c_Unlike) = some false
  k_BadSystem_ValueError : PySem.W.kitOne K (.ref t.c_BadSystem) (.type "ValueError") = some true
  h_BadSystem_QuiltError : PySem.W.exmOne K (.ref t.c_BadSystem) (.ref t.c_QuiltError) = some true
  n_len : mg "len" = none
  n_all : mg "all" = none
  n_range : mg "range" = none
  n_zip : mg "zip" = none
  n_isinstance : mg "isinstance" = none
  n_max : mg "max" = none
  n_min : mg "min" = none
  n_tuple : mg "tuple" = none
  n_sorted : mg "sorted" = none
  n_dict : mg "dict" = none
  n_enumerate : mg "enumerate" = none
  n_ValueError : mg "ValueError" = none

theorem small {n : Nat} (h : n ≤ 1000) : n ≤ sizeLine := Nat.le_of_lt (small1000 h)
section
variable {P : Program} {w : World} {K : PySem.W.Frag} {mg : Str → Option Value} {base : Heap} {t : Ad}
theorem gt_truthL {ta : TE} {σ : L2.St} {H : Hp} {a : Addr} {xs : List V} (h : Gv ta σ H (.ref a)) (hq : SqL K H a xs) : Gt (fun σ H Q => ta σ H fun x H' => ∃ k, TruV K x H' k ∧ Q k H') σ H (!xs.isEmpty) := fun R r => h _ fun H' s => ⟨_, .inl ⟨xs, s.seq hq, rfl⟩, r H' s⟩
def cell (ns : List Int) (k : Int) : Int := if ns = [] then 0 else ns.getD (k % ns.length).toNat 0
def sp_cell (K : PySem.W.Frag) : Sp := fun vs H Q _ => ∃ (a : Addr) (ns : List Int) (k : Int), vs = [.ref a, .int k] ∧ SqL K H a (ns.map V.int) ∧ ns.length ≤ 63 ∧ ∀ H', Same H H' → Q (.int (cell ns k)) H'
theorem sc__law_cell : FnScope ["_law_script", "_law_k"] ["_law_script", "_law_k"] (defScope s__law_cell) := ⟨rfl, rfl, rfl, by decide +kernel, rfl, by decide +kernel, by decide +kernel⟩
theorem ok__law_cell (T : Txt K mg t) : FnOk P w K mg base CX0 1 t.f__law_cell t.d__law_cell ["_law_script", "_law_k"] (sp_cell K) := by
  refine T._law_cell.fn.ok sc__law_cell (fun vs H Q E h => ?_) (fun cdv A outer s H vs Q E hr h => ?_)
  · obtain ⟨a, ns, k, rfl, _⟩ := h
    rfl
  obtain ⟨a, ns, k, rfl, hq, hl, kk⟩ := h
  refine ⟨_, (pss_cons (ps_if (kTruth K (pv 0) (fun _ => rfl)) (pss_one (ps_ret (pe_ix (kIxL K) (pv 0) (pe_op op_mod (pv 1) (pe_callB (kLen K) (by rfl) T.n_len boot_len (pa_cons (pv 0) pa_nil))) (fun _ _ => rfl)))) pss_nil) (pss_one (ps_ret pe_int))), ?_⟩
  refine rq_if (gt_truthL (gv_var (by rfl)) hq) (fun c H1 s1 => ?_) fun c H1 s1 => ?_
  · have ne : ns ≠ [] := fun z => by rw [z] at c; simp at c
    have hpos : 0 < ns.length := List.length_pos_iff.mpr ne
    have hlt : (k % (ns.length : Int)).toNat < ns.length := by
      have h1 := Int.emod_lt_of_pos k (show (0 : Int) < ns.length by omega)
      have h2 := Int.emod_nonneg k (show (ns.length : Int) ≠ 0 by omega)
      omega
    have hat : atI (ns.map V.int) (k % ((ns.map V.int).length : Int)) = some (.int (cell ns k)) := by
      have h2 := Int.emod_nonneg k (show (ns.length : Int) ≠ 0 by omega)
      rw [List.length_map]
      have e : k % (ns.length : Int) = ((k % (ns.length : Int)).toNat : Int) := by omega
      rw [e]
      refine atI_nat ?_
      unfold cell
      rw [if_neg ne, List.getElem?_map, List.getElem?_eq_getElem hlt, List.getD_eq_getElem?_getD, List.getElem?_eq_getElem hlt]
      rfl
    refine rs_ret (gv_ixL (gv_var (by rfl)) (fun H2 s2 => gv_iic (gv_var (by rfl)) (fun H3 s3 => gv_lenL (K := K) (xs := ns.map V.int) (ga_1 (gv_var (by rfl))) ((s1.trans (s2.trans s3)).seq hq)) ?_) (s1.seq hq) hat) fun H2 s2 => kk H2 (s1.trans s2)
    rw [List.length_map]; omega
  · have e : ns = [] := by
      cases ns with
      | nil => rfl
      | cons x xs => simp at c
    have := kk H1 s1
    rw [show cell ns k = 0 by unfold cell; rw [if_pos e]] at this
    exact this
def mix1 (ns : List Int) (k : Int) : Int := (cell ns k + 104729 * (k + 1)) % 4294967291 * 48271 % 4294967279
def mix (ns : List Int) (k : Int) : Int := (mix1 ns k / 64 * 69621 + mix1 ns k) % 4294967231
def sp_mix (K : PySem.W.Frag) : Sp := fun vs H Q _ => ∃ (a : Addr) (ns : List Int) (k : Int), vs = [.ref a, .int k] ∧ SqL K H a (ns.map V.int) ∧ ns.length ≤ 63 ∧ ∀ H', Same H H' → Q (.int (mix ns k)) H'
theorem sc__law_mix : FnScope ["_law_script", "_law_k", "_law_number"] ["_law_script", "_law_k"] (defScope s__law_mix) := ⟨rfl, rfl, rfl, by decide +kernel, rfl, by decide +kernel, by decide +kernel⟩
theorem ok__law_mix (T : Txt K mg t) : FnOk P w K mg base CX0 2 t.f__law_mix t.d__law_mix ["_law_script", "_law_k"] (sp_mix K) := by
  have G__law_cell : FnOk P w K mg base CX0 1 t.f__law_cell t.d__law_cell ["_law_script", "_law_k"] (sp_cell K) := ok__law_cell T
  refine T._law_mix.fn.ok sc__law_mix (fun vs H Q E h => ?_) (fun cdv A outer s H vs Q E hr h => ?_)
  · obtain ⟨a, ns, k, rfl, _⟩ := h
    rfl
  obtain ⟨a, ns, k, rfl, hq, hl, kk⟩ := h
  refine ⟨_, (pss_cons (ps_set (i := 2) sc__law_mix.nd rfl (by first | exact Or.inl rfl | exact Or.inr rfl) (pe_op op_mod (pe_op op_add (pe_callD T._law_cell G__law_cell (hr.mono (by first | decide | omega)) pass0 (pa_cons (pv 0) (pa_cons (pv 1) pa_nil))) (pe_op op_mul pe_int (pe_op op_add (pv 1) pe_int))) pe_int)) (pss_cons (ps_set (i := 2) sc__law_mix.nd rfl (by first | exact Or.inl rfl | exact Or.inr rfl) (pe_op op_mod (pe_op op_mul (pv 2) pe_int) pe_int)) (pss_one (ps_ret (pe_op op_mod (pe_op op_add (pe_op op_mul (pe_op op_fdiv (pv 2) pe_int) pe_int) (pv 2)) pe_int))))), ?_⟩
  refine rq_set (gv_iic (gv_ii (gv_call (v := .int (cell ns k)) (ga_cons (gv_var (by rfl)) fun _ _ => ga_1 (gv_var (by rfl))) fun H1 R s1 k1 => ⟨a, ns, k, rfl, s1.seq hq, hl, k1⟩) fun H1 s1 => gv_iic gv_c (fun H2 s2 => gv_ii (gv_var (by rfl)) fun _ _ => gv_c) (.inl ⟨by decide, by decide⟩)) (fun _ _ => gv_c) (by decide)) fun H1 s1 => ?_
  refine rq_set (gv_iic (gv_iic (gv_var (by rfl)) (fun _ _ => gv_c) (.inr ⟨by decide, by decide⟩)) (fun _ _ => gv_c) (by decide)) fun H2 s2 => ?_
  refine rs_ret (gv_iic (gv_ii (gv_iic (gv_iic (gv_var (by rfl)) (fun _ _ => gv_c) ⟨by decide, by decide⟩) (fun _ _ => gv_c) (.inr ⟨by decide, by decide⟩)) fun _ _ => gv_var (by rfl)) (fun _ _ => gv_c) (by decide)) fun H3 s3 => ?_
  exact kk H3 (s1.trans (s2.trans s3))

end
end K41

set_option maxHeartbeats 1000000
namespace K41
open PySem PySem.Spec PyProof.Rows L2
theorem getD_mem {α : Type} {l : List α} {i : Nat} {d : α} (h : i < l.length) : l.getD i d ∈ l := by
  rw [List.getD_eq_getElem?_getD, List.getElem?_eq_getElem h]
  exact List.getElem_mem h
abbrev abcd : Str := "abcd"
def isL (c : Nat) : Bool := decide (c ∈ abcd.cps.toList)
def lettersOk (x : Str) : Bool := x.cps.toList.all isL
def sp_are_letters : Sp := fun vs H Q _ => ∃ x : Str, vs = [.str x] ∧ x.length ≤ 60 ∧ ∀ H', Same H H' → Q (.bl (lettersOk x)) H'

theorem map_getD (x : Str) : (List.range x.cps.size).map (fun i => x.cps.getD i 0) = x.cps.toList := by
  refine List.ext_getElem (by simp) fun i h1 h2 => ?_
  simp at h1
  simp [Array.getD, h1]

section
variable {P : Program} {w : World} {K : PySem.W.Frag} {mg : Str → Option Value} {base : Heap} {t : Ad}

theorem sc_are_letters : FnScope ["text"] ["text"] (defScope s_are_letters) := ⟨rfl, rfl, rfl, by decide +kernel, rfl, by decide +kernel, by decide +kernel⟩
theorem ok_are_letters (T : Txt K mg t) : FnOk P w K mg base CX0 1 t.f_are_letters t.d_are_letters ["text"] sp_are_letters := by
  refine T.are_letters.fn.ok sc_are_letters (fun vs H Q E h => ?_) (fun cdv A outer s H vs Q E hr h => ?_)
  · obtain ⟨x, rfl, _⟩ := h
    rfl
  obtain ⟨x, rfl, hl, k⟩ := h
  refine ⟨_, (pss_one (ps_ret (pe_callB (kAll K) (by rfl) T.n_all boot_all (pa_cons (pe_comp (N' := ["sign"]) (ix := [none]) (compScope_of (by kernel_rfl)) rfl (pi_str (pv 0)) (fun _ _ _ _ => (pg_name (i := 0) (show List.Nodup (["sign"] : List Str) from by decide +kernel) rfl (by first | exact Or.inl rfl | exact Or.inr rfl))) (fun _ _ _ _ => pf_nil) (fun _ _ _ _ => (pe_cmpR op_in_str (pv 0) (pe_glob rfl T.m_LETTERS T.v_LETTERS) rfl))) pa_nil)))), ?_⟩
  refine ⟨_, rfl, x, rfl, ?_⟩
  refine comp_val_map (fun i => .bl (isL (x.cps.getD i 0))) (small (by show x.length ≤ 1000; omega)) (fun i H6 R hi sm kk => ?_) fun D H6 hD sm hDl => ?_
  · refine ⟨_, rfl, _, _, rfl, rfl, ?_⟩
    rw [StrLaws.found_one]
    exact kk _ (Same.refl _)
  · refine ⟨D, (List.range x.cps.size).map (fun i => isL (x.cps.getD i 0)), rfl, SqL.of (by rw [hDl, List.map_map]; rfl), ?_⟩
    have e : (((List.range x.cps.size).map (fun i => isL (x.cps.getD i 0))).all fun b => b) = lettersOk x := by
      unfold lettersOk
      rw [← map_getD x, List.all_map, List.all_map]
      rfl
    rw [e]
    exact k _ sm

theorem comp_list_idx {ix : List (Option Nat)} {te : TE} {σ : L2.St} {H1 : Hp} {Q : Addr → Hp → Prop} {a : Addr} {xs : List V} {i₀ : Nat} (f : Nat → V) (hq : SqL K H1 a xs) (hz : xs.length ≤ sizeLine)
    (hs : ∀ (i : Nat) (x : V) (H : Hp) (R : VK), xs[i]? = some x → Same H1 H → (∀ H6, Same H H6 → R (f i) H6) → te ((capt ix σ).set i₀ (some x)) H R)
    (hd : ∀ D H, H1 D = none → Same H1 H → H D = some (.lst ((List.range xs.length).map f)) → Q D H) : CompW (Itl K a) ix (gName i₀) tYes te σ H1 Q := by
  refine comp_list hq hz (fun i ys _ => ys = (List.range i).map f) (fun D hD => by simp) (fun D i x ys H R1 R0 hD hx sm hDl p k1 k0 => ?_) fun D ys H hD sm hDl hl p => ?_
  · show te ((capt ix σ).set i₀ (some x)) H R1
    exact hs i x H R1 hx sm fun H6 s6 => k1 _ _ s6 (by rw [List.range_succ, List.map_append, p]; rfl)
  · refine hd D H hD sm ?_
    rw [hDl, p]
def tileB (n : Nat) (t : List Int) : Bool := decide (t.length = 4) && t.all fun f => decide (-1 ≤ f) && decide (f < n)
def onI (f : Int → V) : V → V
  | .int r => f r
  | v => v
theorem map_onI (f : Int → V) (p : List Int) : (p.map V.int).map (onI f) = p.map f := by rw [List.map_map]; rfl
theorem ints_at {p : List Int} {i : Nat} {x : V} (h : (p.map V.int)[i]? = some x) : ∃ r, x = .int r ∧ r ∈ p ∧ p[i]? = some r := by
  rw [List.getElem?_map] at h
  cases e : p[i]? with
  | none => rw [e] at h; cases h
  | some r => rw [e] at h; exact ⟨r, (Option.some.inj h).symm, List.mem_of_getElem? e, rfl⟩
def sp_are_fields (K : PySem.W.Frag) : Sp := fun vs H Q _ => ∃ (a : Addr) (tl : List Int) (n : Nat), vs = [.ref a, .int 4, .int n] ∧ SqT K H a (tl.map V.int) ∧ tl.length ≤ 30 ∧ ∀ H', Same H H' → Q (.bl (tileB n tl)) H'
theorem sc_are_fields : FnScope ["fields", "many", "marks"] ["fields", "many", "marks"] (defScope s_are_fields) := ⟨rfl, rfl, rfl, by decide +kernel, rfl, by decide +kernel, by decide +kernel⟩
theorem ok_are_fields (T : Txt K mg t) : FnOk P w K mg base CX0 1 t.f_are_fields t.d_are_fields ["fields", "many", "marks"] (sp_are_fields K) := by
  refine T.are_fields.fn.ok sc_are_fields (fun vs H Q E h => ?_) (fun cdv A outer s H vs Q E hr h => ?_)
  · obtain ⟨a, tl, n, rfl, _⟩ := h
    rfl
  obtain ⟨a, tl, n, rfl, hq, hl, k⟩ := h
  refine ⟨_, (pss_one (ps_ret (pe_and (pe_cmpR op_eq (pe_callB (kLen K) (by rfl) T.n_len boot_len (pa_cons (pv 0) pa_nil)) (pv 1) (nomark _)) (pe_one (pe_callB (kAll K) (by rfl) T.n_all boot_all (pa_cons (pe_comp (N' := ["field", "marks"]) (ix := [none, some 2]) (compScope_of (by kernel_rfl)) rfl (kiTup K (pv 0)) (fun _ _ _ _ => (pg_name (i := 0) (show List.Nodup (["field", "marks"] : List Str) from by decide +kernel) rfl (by first | exact Or.inl rfl | exact Or.inr rfl))) (fun _ _ _ _ => pf_nil) (fun _ _ _ _ => (pe_chain op_le op_lt (pe_glob rfl T.m_BORDER T.v_BORDER) (pv 0) (pv 1)))) pa_nil)))))), ?_⟩
  refine rs_ret (gv_eq (gv_and (q := tl.all fun f => decide (-1 ≤ f) && decide (f < n)) (gv_eqI (gv_lenT (K := K) (ga_1 (gv_var (by rfl))) hq) (fun _ _ => gv_var (by rfl)) (by rfl)) fun _ H1 s1 => (fun R r => ?_)) (y := .bl (tileB n tl)) ?_) fun H1 s1 => k H1 s1
  · refine tcb1 (tcompT (K := K) (gv_var (by rfl)) (s1.tup hq) fun H2 s2 hq2 => ?_)
    refine comp_tup_map (onI fun f => .bl (decide (-1 ≤ f) && decide (f < n))) hq2 (small (by rw [List.length_map]; omega)) (fun i x H4 R4 hx s4 k4 => ?_) fun D H4 hD s4 hDl => ?_
    · obtain ⟨f, rfl, _, _⟩ := ints_at hx
      exact gv_to (gv_chain gv_c (fun _ _ => gv_var (by rfl)) fun _ _ => gv_var (by rfl)) fun H5 s5 => k4 H5 s5
    · refine ⟨D, tl.map fun (f : Int) => decide (-1 ≤ f) && decide (f < (n : Int)), rfl, SqL.of (by rw [hDl, map_onI, List.map_map]; rfl), ?_⟩
      rw [List.all_map]
      exact r _ (s2.trans s4)
  · unfold tileB
    rw [List.length_map]
    congr 2
    simp
    omega

def riseB : List (List Int) → Bool
  | a :: b :: r => HT.lexLt a b && riseB (b :: r)
  | _ => true
theorem rise_range : ∀ ts : List (List Int), ((List.range (ts.length - 1)).all fun i => HT.lexLt (ts.getD i []) (ts.getD (i + 1) [])) = riseB ts
  | [] => rfl
  | [a] => rfl
  | a :: b :: r => by
    have ih := rise_range (b :: r)
    show ((List.range (r.length + 1)).all _) = (HT.lexLt a b && riseB (b :: r))
    rw [List.range_succ_eq_map, List.all_cons, List.all_map, ← ih]
    rfl
def sp_rises (K : PySem.W.Frag) : Sp := fun vs H Q _ => ∃ (a : Addr) (ts : List (List Int)), vs = [.ref a] ∧ Rep K H (.lst (ts.map tupI)) (.ref a) ∧ ts.length ≤ 900 ∧ ∀ H', Same H H' → Q (.bl (riseB ts)) H'
theorem rep_list {K : PySem.W.Frag} {H : Hp} {ds : List Dt} {a : Addr} (h : Rep K H (.lst ds) (.ref a)) : ∃ xs, SqL K H a xs ∧ Reps K H ds xs := by
  unfold Rep at h
  obtain ⟨a', xs, e, q, r⟩ := h
  cases e
  exact ⟨xs, q, r⟩
theorem sc_rises : FnScope ["tiles"] ["tiles"] (defScope s_rises) := ⟨rfl, rfl, rfl, by decide +kernel, rfl, by decide +kernel, by decide +kernel⟩
theorem ok_rises (T : Txt K mg t) : FnOk P w K mg base CX0 1 t.f_rises t.d_rises ["tiles"] (sp_rises K) := by
  refine T.rises.fn.ok sc_rises (fun vs H Q E h => ?_) (fun cdv A outer s H vs Q E hr h => ?_)
  · obtain ⟨a, ts, rfl, _⟩ := h
    rfl
  obtain ⟨a, ts, rfl, hrep, hl, k⟩ := h
  obtain ⟨xs, hq, hr0⟩ := rep_list hrep
  have hxl : xs.length = ts.length := by rw [hr0.length, List.length_map]
  have at_ : ∀ i, i < ts.length → ∃ c, xs[i]? = some (.ref c) ∧ SqT K H c ((ts.getD i []).map V.int) := fun i hi => by
    obtain ⟨v, hv, hr⟩ := hr0.get i (tupI (ts.getD i [])) (by rw [List.getElem?_map, List.getD_eq_getElem?_getD, List.getElem?_eq_getElem hi]; rfl)
    obtain ⟨c, rfl, hc⟩ := rep_tupI.mp hr
    exact ⟨c, hv, hc⟩
  refine ⟨_, (pss_one (ps_ret (pe_callB (kAll K) (by rfl) T.n_all boot_all (pa_cons (pe_comp (N' := ["place", "tiles"]) (ix := [none, some 0]) (compScope_of (by kernel_rfl)) rfl (pi_range2 rfl T.n_range (pa_cons pe_int (pa_cons (pe_callB (kLen K) (by rfl) T.n_len boot_len (pa_cons (pv 0) pa_nil)) pa_nil))) (fun _ _ _ _ => (pg_name (i := 0) (show List.Nodup (["place", "tiles"] : List Str) from by decide +kernel) rfl (by first | exact Or.inl rfl | exact Or.inr rfl))) (fun _ _ _ _ => pf_nil) (fun _ _ _ _ => (pe_cmpR (kLtT K hr.units) (pe_ix (kIxL K) (pv 1) (pe_op op_sub (pv 0) pe_int) (fun _ _ => rfl)) (pe_ix (kIxL K) (pv 1) (pv 0) (fun _ _ => rfl)) (nomark _)))) pa_nil)))), ?_⟩
  refine rs_ret' (tcb1 (tcompR2 (i := 1) (j := (ts.length : Int)) (ga_cons gv_c fun H1 s1 => ga_1 (gv_eq (gv_lenL (K := K) (ga_1 (gv_var (by rfl))) (s1.seq hq)) (by rw [hxl]))) ⟨by decide, by decide, by omega, by omega⟩ fun H1 s1 => ?_))
  have hn : ((ts.length : Int) - 1).toNat = ts.length - 1 := by omega
  rw [hn]
  refine comp_range_map (fun i => .bl (HT.lexLt (ts.getD i []) (ts.getD (i + 1) []))) (small (by omega)) (fun i H2 R hi s2 k2 => ?_) fun D H2 hD s2 hDl => ?_
  · obtain ⟨c, hc, qc⟩ := at_ i (by omega)
    obtain ⟨d, hd, qd⟩ := at_ (i + 1) (by omega)
    have s12 := s1.trans s2
    refine gv_to (gv_ltT (K := K) (gv_ixL (K := K) (gv_var (by rfl)) (fun _ _ => gv_eq (gv_ii (gv_var (by rfl)) fun _ _ => gv_c) (y := .int (i : Int)) (by congr 1; omega)) (s12.seq hq) (atI_nat hc)) (fun H3 s3 => gv_ixL (K := K) (gv_var (by rfl)) (fun _ _ => gv_eq (gv_var (by rfl)) (y := .int ((i + 1 : Nat) : Int)) (by congr 1; omega)) ((s12.trans s3).seq hq) (atI_nat hd)) (s12.tup qc) (s12.tup qd)) fun H3 s3 => k2 H3 s3
  · refine ⟨D, (List.range (ts.length - 1)).map fun i => HT.lexLt (ts.getD i []) (ts.getD (i + 1) []), rfl, SqL.of (by rw [hDl, List.map_map]; rfl), ?_⟩
    rw [List.all_map, show (List.range (ts.length - 1)).all ((fun b => b) ∘ fun i => HT.lexLt (ts.getD i []) (ts.getD (i + 1) [])) = riseB ts from rise_range ts]
    exact k _ (s1.trans s2)
def sysB (x : Str) (ts : List (List Int)) : Bool := (decide (x.length ≤ 16) && lettersOk x) && (ts.all (tileB x.length) && riseB ts)
/-- the pair at a -/
def SysAt (K : PySem.W.Frag) (H : Hp) (a : Addr) (x : Str) (ts : List (List Int)) : Prop := ∃ T, SqT K H a [.str x, .ref T] ∧ Rep K H (.lst (ts.map tupI)) (.ref T)
theorem SysAt.same {K : PySem.W.Frag} {H H' : Hp} {a : Addr} {x : Str} {ts : List (List Int)} (h : SysAt K H a x ts) (s : Same H H') : SysAt K H' a x ts := by
  obtain ⟨T, h1, h2⟩ := h
  exact ⟨T, s.tup h1, h2.same s⟩
structure Mild (x : Str) (ts : List (List Int)) : Prop where
  short : x.length ≤ 60
  few : ts.length ≤ 900
  small : ∀ t ∈ ts, t.length ≤ 30
def sp_is_system (K : PySem.W.Frag) : Sp := fun vs H Q _ => ∃ (a : Addr) (x : Str) (ts : List (List Int)), vs = [.ref a] ∧ SysAt K H a x ts ∧ Mild x ts ∧ ∀ H', Same H H' → Q (.bl (sysB x ts)) H'
theorem sc_is_system : FnScope ["system", "letters", "tiles"] ["system"] (defScope s_is_system) := ⟨rfl, rfl, rfl, by decide +kernel, rfl, by decide +kernel, by decide +kernel⟩
theorem ok_is_system (T : Txt K mg t) : FnOk P w K mg base CX0 2 t.f_is_system t.d_is_system ["system"] (sp_is_system K) := by
  have G_are_letters : FnOk P w K mg base CX0 1 t.f_are_letters t.d_are_letters ["text"] sp_are_letters := ok_are_letters T
  have G_are_fields : FnOk P w K mg base CX0 1 t.f_are_fields t.d_are_fields ["fields", "many", "marks"] (sp_are_fields K) := ok_are_fields T
  have G_rises : FnOk P w K mg base CX0 1 t.f_rises t.d_rises ["tiles"] (sp_rises K) := ok_rises T
  refine T.is_system.fn.ok sc_is_system (fun vs H Q E h => ?_) (fun cdv A outer s H vs Q E hr h => ?_)
  · obtain ⟨a, x, ts, rfl, _⟩ := h
    rfl
  obtain ⟨a, x, ts, rfl, ⟨L, hT, hrep⟩, hM, k⟩ := h
  have hsx := hM.short
  have hft := hM.few
  refine ⟨_, (pss_cons (ps_if (pt_cmpR op_ne (pe_callB (kLen K) (by rfl) T.n_len boot_len (pa_cons (pv 0) pa_nil)) pe_int (nomark _)) (pss_one (ps_ret pe_bl)) pss_nil) (pss_cons (ps_set (i := 1) sc_is_system.nd rfl (by first | exact Or.inl rfl | exact Or.inr rfl) (pe_ix (kIxT K) (pv 0) pe_int (fun _ _ => rfl))) (pss_cons (ps_set (i := 2) sc_is_system.nd rfl (by first | exact Or.inl rfl | exact Or.inr rfl) (pe_ix (kIxT K) (pv 0) pe_int (fun _ _ => rfl))) (pss_cons (ps_if (PW.pt (pw_or (pt_cmpR op_gt (pe_callB (kLen K) (by rfl) T.n_len boot_len (pa_cons (pv 1) pa_nil)) (pe_glob rfl T.m_MOST_MARKS T.v_MOST_MARKS) (nomark _)) (pw_or1 (pt_not (pt_val (pe_callD T.are_letters G_are_letters (hr.mono (by first | decide | omega)) pass0 (pa_cons (pv 1) pa_nil))))))) (pss_one (ps_ret pe_bl)) pss_nil) (pss_one (ps_ret (pe_and (pe_callB (kAll K) (by rfl) T.n_all boot_all (pa_cons (pe_comp (N' := ["tile", "letters"]) (ix := [none, some 1]) (compScope_of (by kernel_rfl)) rfl (kiList K (pv 2)) (fun _ _ _ _ => (pg_name (i := 0) (show List.Nodup (["tile", "letters"] : List Str) from by decide +kernel) rfl (by first | exact Or.inl rfl | exact Or.inr rfl))) (fun _ _ _ _ => pf_nil) (fun _ _ _ _ => (pe_callD T.are_fields G_are_fields (hr.mono (by first | decide | omega)) pass0 (pa_cons (pv 0) (pa_cons (pe_glob rfl T.m_TILE_FIELDS T.v_TILE_FIELDS) (pa_cons (pe_callB (kLen K) (by rfl) T.n_len boot_len (pa_cons (pv 1) pa_nil)) pa_nil)))))) pa_nil)) (pe_one (pe_callD T.rises G_rises (hr.mono (by first | decide | omega)) pass0 (pa_cons (pv 2) pa_nil)))))))))), ?_⟩
  refine rq_if (b := false) (gt_eq (gt_test (gv_neI (gv_lenT (K := K) (ga_1 (gv_var (by rfl))) hT) (fun _ _ => gv_c) (by rfl))) (by rfl)) (fun c => absurd c (by decide)) fun c H1 s1 => ?_
  refine rq_set (gv_ixT (K := K) (gv_var (by rfl)) (fun _ _ => gv_c) (s1.tup hT) (atI_nat (j := 0) rfl)) fun H2 s2 => ?_
  refine rq_set (gv_ixT (K := K) (gv_var (by rfl)) (fun _ _ => gv_c) ((s1.trans s2).tup hT) (atI_nat (j := 1) rfl)) fun H3 s3 => ?_
  have s03 := s1.trans (s2.trans s3)
  refine rq_if (b := !(decide (x.length ≤ 16) && lettersOk x)) (gt_eq (gt_or (gt_test (gv_ii (gv_lenS (K := K) (ga_1 (gv_var (by rfl))) (small (by omega))) fun _ _ => gv_c)) fun _ H4 s4 => gt_not (gt_tB (gv_call (ga_1 (gv_var (by rfl))) fun H5 R' s5 k5 => ⟨x, rfl, by omega, k5⟩))) ?_) (fun c H4 s4 => ?_) fun c H4 s4 => ?_
  · rw [Bool.not_and]
    congr 1
    by_cases c : x.length ≤ 16
    · rw [decide_eq_true c, decide_eq_false (by omega)]; rfl
    · rw [decide_eq_false c, decide_eq_true (by omega)]; rfl
  · have e : sysB x ts = false := by
      unfold sysB
      rw [Bool.not_eq_true'] at c
      rw [c, Bool.false_and]
    have := k H4 (s03.trans s4)
    rw [e] at this
    exact this
  have c' : (decide (x.length ≤ 16) && lettersOk x) = true := by simpa using c
  have s04 := s03.trans s4
  have hrep4 := hrep.same s04
  obtain ⟨xs, hq, hr0⟩ := rep_list hrep4
  have hxl : xs.length = ts.length := by rw [hr0.length, List.length_map]
  refine rs_ret (v := .bl (sysB x ts)) (gv_eq (gv_and (p := ts.all (tileB x.length)) (q := riseB ts) (fun R r => ?_) fun _ H5 s5 => gv_call (ga_1 (gv_var (by rfl))) fun H6 R' s6 k6 => ⟨L, ts, rfl, hrep4.same (s5.trans s6), hft, k6⟩) (by unfold sysB; rw [c', Bool.true_and])) fun H5 s5 => k H5 (s04.trans s5)
  refine tcb1 (tcompL (K := K) (gv_var (by rfl)) hq fun H5 s5 hq5 => ?_)
  refine comp_list_idx (fun i => .bl (tileB x.length (ts.getD i []))) hq5 (small (by omega)) (fun i v H6 R6 hv s6 k6 => ?_) fun D H6 hD s6 hDl => ?_
  · have hi : i < ts.length := by have := (List.getElem?_eq_some_iff.mp hv).1; omega
    obtain ⟨v', hv', hr⟩ := hr0.get i (tupI (ts.getD i [])) (by rw [List.getElem?_map, List.getD_eq_getElem?_getD, List.getElem?_eq_getElem hi]; rfl)
    rw [hv] at hv'
    cases hv'
    obtain ⟨c, rfl, hc⟩ := rep_tupI.mp hr
    have hm : ts.getD i [] ∈ ts := getD_mem hi
    exact gv_to (gv_call (ga_cons (gv_var (by rfl)) fun _ _ => ga_cons gv_c fun _ _ => ga_1 (gv_lenS (K := K) (ga_1 (gv_var (by rfl))) (small (by omega)))) fun H7 R7 s7 k7 => ⟨c, ts.getD i [], x.length, rfl, (s5.trans (s6.trans s7)).tup hc, hM.small _ hm, k7⟩) fun H7 s7 => k6 H7 s7
  · refine ⟨D, (List.range xs.length).map fun i => tileB x.length (ts.getD i []), rfl, SqL.of (by rw [hDl, List.map_map]; rfl), ?_⟩
    have e : (((List.range xs.length).map fun i => tileB x.length (ts.getD i [])).all fun b => b) = ts.all (tileB x.length) := by
      rw [hxl]
      have : (List.range ts.length).map (fun i => ts.getD i []) = ts := by
        refine List.ext_getElem (by simp) fun i h1 h2 => ?_
        simp [h2]
      conv => rhs; rw [← this]
      rw [List.all_map, List.all_map]
      rfl
    rw [e]
    exact r _ (s5.trans s6)
def sp_lookS (K : PySem.W.Frag) (C : Addr) : Sp := fun vs H Q E => ∃ (a : Addr) (x : Str) (ts : List (List Int)), vs = [.ref a] ∧ SysAt K H a x ts ∧ Mild x ts ∧ (sysB x ts = true → ∀ H', Same H H' → Q .non H') ∧ (sysB x ts = false → ∀ H', Same H H' → E (.ref C) none H')
theorem sc_look_system : FnScope ["system"] ["system"] (defScope s_look_system) := ⟨rfl, rfl, rfl, by decide +kernel, rfl, by decide +kernel, by decide +kernel⟩
theorem ok_look_system (T : Txt K mg t) : FnOk P w K mg base (CX1 P w) 3 t.f_look_system t.d_look_system ["system"] (sp_lookS K t.c_BadSystem) := by
  have G_is_system : FnOk P w K mg base CX0 2 t.f_is_system t.d_is_system ["system"] (sp_is_system K) := ok_is_system T
  refine T.look_system.fn.okX sc_look_system (fun vs H Q E h => ?_) (fun cdv A outer s H vs Q E hr h => ?_)
  · obtain ⟨a, x, ts, rfl, _⟩ := h
    rfl
  obtain ⟨a, x, ts, rfl, hA, hM, k1, k2⟩ := h
  refine ⟨_, (pss_one (ps_if (pt_not (pt_val (pe_callD T.is_system G_is_system (hr.mono (by first | decide | omega)) pass0 (pa_cons (pv 0) pa_nil)))) (pss_one (ps_raise raiseX rfl rfl rfl rfl T.x_BadSystem rfl (pa_cons pe_str pa_nil))) pss_nil)), ?_⟩
  refine rs_if2 (gt_not (gt_tB (gv_call (ga_1 (gv_var (by rfl))) fun H1 R s1 kk => ⟨a, x, ts, rfl, hA.same s1, hM, kk⟩))) (fun c H1 s1 => ?_) fun c H1 s1 => ?_
  · exact ⟨(by show 1 ≤ sizeLine; decide), k2 (by simpa using c) H1 s1⟩
  · exact k1 (by simpa using c) H1 s1
end
end K41

namespace PySem
section
variable {prog : Program} {w : World} {K : Type} [DecidableEq K] {knd : HeapKind prog w K} {A : Around} {E : Value → Shared → Prop} {s : Shared}
end
end PySem
namespace L2
open PySem PySem.Spec PyProof.Rows TB
section
variable {X : Cx} {pins : List (Addr × Obj)} {σ : St} {H : Hp} {s : Shared} {a : Addr} {y d : V} {u r : Value} {o : Option V} {A : Around} {E : Value → Shared → Prop}
end
section
variable {X : Cx} {o e f : Expr} {apos cpos : Pos} {td ty tx : TE} (K : PySem.W.Frag) (P : Program) (w : World)
end
section
variable {X : Cx} {a b : Expr} {rest : List Expr} {pos : Pos} {ta tb : TE} (K : PySem.W.Frag)
end
section
variable {X : Cx} (K : PySem.W.Frag)
end
end L2

namespace L2
open PySem PySem.Spec PyProof.Rows TB
section
variable {prog : Program} {w : World} {A : Around} {E : Value → Shared → Prop} {s : Shared}
end
end L2

namespace L2
open PySem PySem.Spec PyProof.Rows
theorem Room.un9 {k : Nat} {A : Around} (r : Room k A) : A.units + 9 < cLine := by have := r.un; omega
section
variable {X : Cx} {CX : CXT} {k : Nat} {f C : Addr} {fd : FuncData} {ps : List Str} {sp : Sp} {E : XK} {x m q : Str} {st : Stmt} {p pos apos cpos tpos : Pos} {e o i value : Expr} {es : List Expr} {ta tv td ty : TE} {t : TA} (K : PySem.W.Frag)
theorem kMin2 (hc : X.calm = true := by rfl) : CallR X (.builtin "min") (fun xs H Q => ∃ i j, xs = [.int i, .int j] ∧ Q (.int (if j < i then j else i)) H) := call_min2 hc
theorem kMax2 (hc : X.calm = true := by rfl) : CallR X (.builtin "max") (fun xs H Q => ∃ i j, xs = [.int i, .int j] ∧ Q (.int (if j > i then j else i)) H) := call_max2 hc
end
end L2

namespace L2
open PySem PySem.Spec PyProof.Rows
section
variable {X : Cx}
end
section
variable {X : Cx} (K : PySem.W.Frag)
end
end L2

namespace L2
open PySem PySem.Spec PyProof.Rows
def repS (x : Str) (n : Nat) : Str := ⟨(List.replicate n x.cps).foldl (· ++ ·) #[]⟩
theorem fold_list (l : List (Array Nat)) : ∀ a : Array Nat, (l.foldl (· ++ ·) a).toList = a.toList ++ (l.map Array.toList).flatten := by
  induction l with
  | nil => intro a; simp
  | cons b r ih => intro a; rw [List.foldl_cons, ih]; simp
theorem repS_list (x : Str) (n : Nat) : (repS x n).cps.toList = (List.replicate n x.cps.toList).flatten := by
  unfold repS
  rw [fold_list]
  simp
theorem repS_one (c n : Nat) : (repS ⟨#[c]⟩ n).cps.toList = List.replicate n c := by
  rw [repS_list]
  induction n with
  | zero => rfl
  | succ n ih => rw [List.replicate_succ, List.flatten_cons, ih, List.replicate_succ]; rfl
theorem repS_len (c n : Nat) : (repS ⟨#[c]⟩ n).length = n := by
  show (repS ⟨#[c]⟩ n).cps.size = n
  rw [← Array.length_toList, repS_one, List.length_replicate]
def rMulS : R2 := fun x y H Q => ∃ (c n : Nat), x = .str ⟨#[c]⟩ ∧ y = .int n ∧ 1 ≤ n ∧ n ≤ 1000 ∧ Q (.str (repS ⟨#[c]⟩ n)) H
section
variable {X : Cx}
theorem op_mulS : OpR X (binaryOp .Mult) rMulS := by
  intro pins s σ H x y v u Q I rx ry h
  obtain ⟨c, n, rfl, rfl, h1, h2, q⟩ := h
  obtain ⟨t, rfl⟩ := rx
  obtain ⟨t2, rfl⟩ := ry
  have hone : (⟨#[c]⟩ : Str).length = 1 := rfl
  refine PySem.P.mul_str ?_ (fun _ hx => ?_) (fun _ hx => ?_) ?_
  · rw [decide_eq_false (by omega), decide_eq_false (by omega)]; rfl
  · rw [hone]
    have : (1 : Int) ≤ (2 ^ 63 - 1) / (n : Int) := by
      rw [Int.le_ediv_iff_mul_le (by omega)]
      omega
    omega
  · rw [hone, Nat.one_mul]
    have : ((n : Int)).toNat = n := by omega
    rw [this]
    have h3 : n ≤ sizeLine := by rw [sizeLine_eq]; omega
    unfold Builtin.Str.tooLong
    simp
    exact h3
  · rw [if_neg (by omega)]
    by_cases c1 : ((n : Int) == 1 || (⟨#[c]⟩ : Str).length == 0) = true
    · rw [if_pos c1]
      have e : n = 1 := by
        rw [hone] at c1
        simp at c1
        omega
      subst e
      have e2 : repS ⟨#[c]⟩ 1 = ⟨#[c]⟩ := by
        show (⟨#[] ++ #[c]⟩ : Str) = _
        simp
      rw [e2] at q
      exact ⟨.str ⟨#[c]⟩, H, I, ⟨t, rfl⟩, q⟩
    · rw [if_neg c1]
      have e : ((n : Int)).toNat = n := by omega
      rw [e]
      refine ⟨?_, .str (repS ⟨#[c]⟩ n), H, I.tok _, ⟨_, rfl⟩, q⟩
      show (repS ⟨#[c]⟩ n).length ≤ sizeLine
      rw [repS_len, sizeLine_eq]
      omega
end
section
variable {ta tb : TE} {σ : St} {H : Hp} {c n : Nat}
end
end L2

namespace L2
open PySem PySem.Spec PyProof.Rows
def rMulZ : R2 := fun x y H Q => ∃ (c n : Nat), x = .str ⟨#[c]⟩ ∧ y = .int n ∧ n ≤ 1000 ∧ Q (.str (repS ⟨#[c]⟩ n)) H
section
variable {X : Cx}
theorem op_mulZ : OpR X (binaryOp .Mult) rMulZ := by
  intro pins s σ H x y v u Q I rx ry h
  obtain ⟨c, n, rfl, rfl, h2, q⟩ := h
  by_cases h1 : 1 ≤ n
  · exact op_mulS pins s σ H _ _ v u Q I rx ry ⟨c, n, rfl, rfl, h1, h2, q⟩
  · have e : n = 0 := by omega
    subst e
    obtain ⟨t, rfl⟩ := rx
    obtain ⟨t2, rfl⟩ := ry
    refine PySem.P.mul_str (by decide) (fun hx => absurd (show ((0 : Nat) : Int) < 1 by decide) hx) (fun hx => absurd (show ((0 : Nat) : Int) < 1 by decide) hx) ?_
    rw [if_pos (show ((0 : Nat) : Int) < 1 by decide)]
    refine ⟨?_, .str Str.empty, H, I.tok _, ⟨_, rfl⟩, q⟩
    show 0 ≤ sizeLine
    exact Nat.zero_le _
end
section
variable {ta tb : TE} {σ : St} {H : Hp} {c n : Nat}
theorem gv_mulZ (h : Gv ta σ H (.str ⟨#[c]⟩)) (g : ∀ H', Same H H' → Gv tb σ H' (.int n)) (h2 : n ≤ 1000) : Gv (tOp rMulZ ta tb) σ H (.str (repS ⟨#[c]⟩ n)) := fun R r => h _ fun H' s => g H' s _ fun H2 s2 => ⟨c, n, rfl, rfl, h2, r H2 (s.trans s2)⟩
end
end L2

set_option maxHeartbeats 1000000
namespace K41
open PySem PySem.Spec PyProof.Rows L2
section
variable {P : Program} {w : World} {K : PySem.W.Frag} {mg : Str → Option Value} {base : Heap} {t : Ad}
/-- a system without tiles, in a list of one's own -/
def EmpAt (K : PySem.W.Frag) (H : Hp) (a : Addr) (x : Str) : Prop := ∃ T, SqT K H a [.str x, .ref T] ∧ H T = some (.lst [])
theorem EmpAt.same {H H' : Hp} {a : Addr} {x : Str} (h : EmpAt K H a x) (s : Same H H') : EmpAt K H' a x := by
  obtain ⟨T, h1, h2⟩ := h
  exact ⟨T, s.tup h1, s _ _ h2⟩
def AB (x y : Str) : Prop := (∀ c ∈ x.cps.toList, c = 97) ∧ ∀ c ∈ y.cps.toList, c = 98
def sp_tog (C : Addr) : Sp := fun vs H Q E => ∃ n : Int, vs = [.int n] ∧ (n ≤ 16 → ∀ H', Same H H' → Q .non H') ∧ (16 < n → ∀ H', Same H H' → E (.ref C) none H')
theorem sc_look_together : FnScope ["marks"] ["marks"] (defScope s_look_together) := ⟨rfl, rfl, rfl, by decide +kernel, rfl, by decide +kernel, by decide +kernel⟩
theorem ok_look_together (T : Txt K mg t) : FnOk P w K mg base (CX1 P w) 1 t.f_look_together t.d_look_together ["marks"] (sp_tog t.c_BadSystem) := by
  refine T.look_together.fn.okX sc_look_together (fun vs H Q E h => ?_) (fun cdv A outer s H vs Q E hr h => ?_)
  · obtain ⟨n, rfl, _⟩ := h
    rfl
  obtain ⟨n, rfl, k1, k2⟩ := h
  refine ⟨_, (pss_one (ps_if (pt_cmpR op_gt (pv 0) (pe_glob rfl T.m_MOST_MARKS T.v_MOST_MARKS) (nomark _)) (pss_one (ps_raise raiseX rfl rfl rfl rfl T.x_BadSystem rfl (pa_cons pe_str pa_nil))) pss_nil)), ?_⟩
  refine rs_if2 (gt_test (gv_ii (gv_var (by rfl)) fun _ _ => gv_c)) (fun c H1 s1 => ?_) fun c H1 s1 => ?_
  · exact ⟨(by show 1 ≤ sizeLine; decide), k2 (by simpa using c) H1 s1⟩
  · exact k1 (by simpa using c) H1 s1
def sp_two (K : PySem.W.Frag) (C : Addr) : Sp := fun vs H Q E => ∃ (a b : Addr) (x y : Str) (ts us : List (List Int)), vs = [.ref a, .ref b] ∧ SysAt K H a x ts ∧ Mild x ts ∧ SysAt K H b y us ∧ Mild y us ∧
  (sysB x ts = true → sysB y us = true → ∀ H', Same H H' → Q .non H') ∧ ((sysB x ts && sysB y us) = false → ∀ H', Same H H' → E (.ref C) none H')
theorem sc_look_both : FnScope ["one", "other"] ["one", "other"] (defScope s_look_both) := ⟨rfl, rfl, rfl, by decide +kernel, rfl, by decide +kernel, by decide +kernel⟩
theorem ok_look_both (T : Txt K mg t) : FnOk P w K mg base (CX1 P w) 4 t.f_look_both t.d_look_both ["one", "other"] (sp_two K t.c_BadSystem) := by
  have G_look_system : FnOk P w K mg base (CX1 P w) 3 t.f_look_system t.d_look_system ["system"] (sp_lookS K t.c_BadSystem) := ok_look_system T
  refine T.look_both.fn.okX sc_look_both (fun vs H Q E h => ?_) (fun cdv A outer s H vs Q E hr h => ?_)
  · obtain ⟨a, b, x, y, ts, us, rfl, _⟩ := h
    rfl
  obtain ⟨a, b, x, y, ts, us, rfl, hA, hM, hB, hN, k1, k2⟩ := h
  refine ⟨_, (pss_cons (ps_expr (pe_callD T.look_system G_look_system (hr.mono (by first | decide | omega)) (passes1 raiseX rfl rfl rfl (fun _ _ _ z => z)) (pa_cons (pv 0) pa_nil))) (pss_one (ps_expr (pe_callD T.look_system G_look_system (hr.mono (by first | decide | omega)) (passes1 raiseX rfl rfl rfl (fun _ _ _ z => z)) (pa_cons (pv 1) pa_nil))))), ?_⟩
  refine rq_drop' (tcall (ga_1 (gv_var (by rfl))) fun H1 s1 => ⟨a, x, ts, rfl, hA.same s1, hM, fun c1 H2 s2 => ?_, fun c1 H2 s2 => k2 (by rw [c1]; rfl) H2 (s1.trans s2)⟩)
  have s02 := s1.trans s2
  exact rs_drop' (tcall (ga_1 (gv_var (by rfl))) fun H3 s3 => ⟨b, y, us, rfl, hB.same (s02.trans s3), hN, fun c2 H4 s4 => k1 c1 c2 H4 ((s02.trans s3).trans s4), fun c2 H4 s4 => k2 (by rw [c1, c2]; rfl) H4 ((s02.trans s3).trans s4)⟩)
def sp_nil1 (K : PySem.W.Frag) : Sp := fun vs H Q _ => ∃ a, vs = [.ref a] ∧ SqL K H a [] ∧ ∀ p H', H p = none → Same H H' → H' p = some (.lst []) → Q (.ref p) H'
def sp_nilV (K : PySem.W.Frag) : Sp := fun vs H Q _ => ∃ a v, vs = [.ref a, v] ∧ SqL K H a [] ∧ ∀ p H', H p = none → Same H H' → H' p = some (.lst []) → Q (.ref p) H'
def sp_nil2 (K : PySem.W.Frag) : Sp := fun vs H Q _ => ∃ a b, vs = [.ref a, .ref b] ∧ SqL K H a [] ∧ SqL K H b [] ∧ ∀ p H', H p = none → Same H H' → H' p = some (.lst []) → Q (.ref p) H'
section
variable {ta tb te : TE} {σ : L2.St} {H : Hp} {a b : Addr} {E : XK} {v : V}
theorem gn_nil1 (h : Gn te σ H []) : Gn (tCall (sp_nil1 K) [] E (tCons te tNil)) σ H [] := fun R r => h _ fun a H1 ha s1 hl => ⟨a, rfl, SqL.of hl, fun p H2 hp s2 hl2 => r p H2 (s1.free hp) (s1.trans s2) hl2⟩
theorem gn_nil1v (h : Gv te σ H (.ref a)) (hq : SqL K H a []) : Gn (tCall (sp_nil1 K) [] E (tCons te tNil)) σ H [] := fun R r => h _ fun H1 s1 => ⟨a, rfl, s1.seq hq, fun p H2 hp s2 hl2 => r p H2 (s1.free hp) (s1.trans s2) hl2⟩
theorem gn_nilVv (h : Gv ta σ H (.ref a)) (hq : SqL K H a []) (g : ∀ H', Same H H' → Gv tb σ H' v) : Gn (tCall (sp_nilV K) [] E (tCons ta (tCons tb tNil))) σ H [] := fun R r => h _ fun H1 s1 => g H1 s1 _ fun H2 s2 => ⟨a, v, rfl, (s1.trans s2).seq hq, fun p H3 hp s3 hl2 => r p H3 ((s1.trans s2).free hp) ((s1.trans s2).trans s3) hl2⟩
theorem gn_nil2vn (h : Gv ta σ H (.ref a)) (hq : SqL K H a []) (g : ∀ H', Same H H' → Gn tb σ H' []) : Gn (tCall (sp_nil2 K) [] E (tCons ta (tCons tb tNil))) σ H [] := fun R r => h _ fun H1 s1 => g H1 s1 _ fun b H2 hb s2 hl => ⟨a, b, rfl, (s1.trans s2).seq hq, SqL.of hl, fun p H3 hp s3 hl2 => r p H3 ((s1.trans s2).free hp) ((s1.trans s2).trans s3) hl2⟩
theorem gn_nil2nn (h : Gn ta σ H []) (g : ∀ H', Same H H' → Gn tb σ H' []) : Gn (tCall (sp_nil2 K) [] E (tCons ta (tCons tb tNil))) σ H [] := fun R r => h _ fun a H1 ha s1 hl1 => g H1 s1 _ fun b H2 hb s2 hl => ⟨a, b, rfl, SqL.of (s2 _ _ hl1), SqL.of hl, fun p H3 hp s3 hl2 => r p H3 ((s1.trans s2).free hp) ((s1.trans s2).trans s3) hl2⟩
theorem gn_nil2v (h : Gv ta σ H (.ref a)) (hq : SqL K H a []) (g : ∀ H', Same H H' → Gv tb σ H' (.ref b)) (hb : SqL K H b []) : Gn (tCall (sp_nil2 K) [] E (tCons ta (tCons tb tNil))) σ H [] := fun R r => h _ fun H1 s1 => g H1 s1 _ fun H2 s2 => ⟨a, b, rfl, (s1.trans s2).seq hq, (s1.trans s2).seq hb, fun p H3 hp s3 hl2 => r p H3 ((s1.trans s2).free hp) ((s1.trans s2).trans s3) hl2⟩
theorem gn_srtN (h : Gn te σ H []) : Gn (tCB (rSortedL K) (tCons te tNil)) σ H [] := fun R r => h _ fun a H1 ha s1 hl => ⟨a, [], rfl, SqL.of hl, fun p hp => absurd hp (by simp), fun p hp => absurd hp (by simp), List.nodup_nil, by decide, fun l qs hl' hp _ => by
  have e : qs = [] := by simpa using hp.length_eq
  subst e
  exact r l _ (s1.free hl') (s1.trans (Same.new hl' _)) upd_same⟩
end
theorem sc_each_once : FnScope ["tiles"] ["tiles"] (defScope s_each_once) := ⟨rfl, rfl, rfl, by decide +kernel, rfl, by decide +kernel, by decide +kernel⟩
theorem ok_each_once (T : Txt K mg t) : FnOk P w K mg base CX0 1 t.f_each_once t.d_each_once ["tiles"] (sp_nil1 K) := by
  refine T.each_once.fn.ok sc_each_once (fun vs H Q E h => ?_) (fun cdv A outer s H vs Q E hr h => ?_)
  · obtain ⟨a, rfl, _⟩ := h
    rfl
  obtain ⟨a, rfl, hq, k⟩ := h
  refine ⟨_, (pss_one (ps_ret (pe_callB (kSortedE P w) (by rfl) T.n_sorted boot_sorted (pa_cons (pe_callTy (kDictT K P w hr.units) (by rfl) T.n_dict boot_dict (pa_cons (pe_comp (N' := ["tile"]) (ix := [none]) (compScope_of (by kernel_rfl)) rfl (kiList K (pv 0)) (fun _ _ _ _ => (pg_name (i := 0) (show List.Nodup (["tile"] : List Str) from by decide +kernel) rfl (by first | exact Or.inl rfl | exact Or.inr rfl))) (fun _ _ _ _ => pf_nil) (fun _ _ _ _ => pe_never)) pa_nil)) pa_nil)))), ?_⟩
  refine rs_ret' (tcb1 (tcb1 (tcompNil (K := K) (gv_var (by rfl)) hq fun D H1 hD s1 hl => ⟨D, [], rfl, SqL.of hl, fun p hp => absurd hp (by simp), by decide, fun S ds hS m1 m2 => ?_⟩)))
  have e : ds = [] := by
    cases ds with
    | nil => rfl
    | cons d ds =>
      obtain ⟨p, hp, _⟩ := m2 d List.mem_cons_self
      exact absurd hp (by simp)
  subst e
  exact ⟨S, rfl, upd_same, fun l hl' => k l _ (s1.free ((Same.new hS _).free hl')) ((s1.trans (Same.new hS _)).trans (Same.new hl' _)) upd_same⟩
theorem sc_moved_tiles : FnScope ["tiles", "by"] ["tiles", "by"] (defScope s_moved_tiles) := ⟨rfl, rfl, rfl, by decide +kernel, rfl, by decide +kernel, by decide +kernel⟩
theorem ok_moved_tiles (T : Txt K mg t) : FnOk P w K mg base CX0 1 t.f_moved_tiles t.d_moved_tiles ["tiles", "by"] (sp_nilV K) := by
  refine T.moved_tiles.fn.ok sc_moved_tiles (fun vs H Q E h => ?_) (fun cdv A outer s H vs Q E hr h => ?_)
  · obtain ⟨a, v, rfl, _⟩ := h
    rfl
  obtain ⟨a, v, rfl, hq, k⟩ := h
  refine ⟨_, (pss_one (ps_ret (pe_comp (N' := ["tile", "by"]) (ix := [none, some 1]) (compScope_of (by kernel_rfl)) rfl (kiList K (pv 0)) (fun _ _ _ _ => (pg_name (i := 0) (show List.Nodup (["tile", "by"] : List Str) from by decide +kernel) rfl (by first | exact Or.inl rfl | exact Or.inr rfl))) (fun _ _ _ _ => pf_nil) (fun _ _ _ _ => pe_never)))), ?_⟩
  exact rs_ret' (tcompNil (K := K) (gv_var (by rfl)) hq fun D H1 hD s1 hl => k D H1 hD s1 hl)
theorem sc_stood_tiles : FnScope ["tiles"] ["tiles"] (defScope s_stood_tiles) := ⟨rfl, rfl, rfl, by decide +kernel, rfl, by decide +kernel, by decide +kernel⟩
theorem ok_stood_tiles (T : Txt K mg t) : FnOk P w K mg base CX0 1 t.f_stood_tiles t.d_stood_tiles ["tiles"] (sp_nil1 K) := by
  refine T.stood_tiles.fn.ok sc_stood_tiles (fun vs H Q E h => ?_) (fun cdv A outer s H vs Q E hr h => ?_)
  · obtain ⟨a, rfl, _⟩ := h
    rfl
  obtain ⟨a, rfl, hq, k⟩ := h
  refine ⟨_, (pss_one (ps_ret (pe_comp (N' := ["left", "right", "low_left", "low_right"]) (ix := [none, none, none, none]) (compScope_of (by kernel_rfl)) rfl (kiList K (pv 0)) (fun _ _ _ _ => (kgTup K (n := 4) (pgs_cons (pg_name (i := 0) (show List.Nodup (["left", "right", "low_left", "low_right"] : List Str) from by decide +kernel) rfl (by first | exact Or.inl rfl | exact Or.inr rfl)) (pgs_cons (pg_name (i := 1) (show List.Nodup (["left", "right", "low_left", "low_right"] : List Str) from by decide +kernel) rfl (by first | exact Or.inl rfl | exact Or.inr rfl)) (pgs_cons (pg_name (i := 2) (show List.Nodup (["left", "right", "low_left", "low_right"] : List Str) from by decide +kernel) rfl (by first | exact Or.inl rfl | exact Or.inr rfl)) (pgs_cons (pg_name (i := 3) (show List.Nodup (["left", "right", "low_left", "low_right"] : List Str) from by decide +kernel) rfl (by first | exact Or.inl rfl | exact Or.inr rfl)) pgs_nil)))))) (fun _ _ _ _ => pf_nil) (fun _ _ _ _ => pe_never)))), ?_⟩
  exact rs_ret' (tcompNil (K := K) (gv_var (by rfl)) hq fun D H1 hD s1 hl => k D H1 hD s1 hl)
theorem sc_mirrored_tiles : FnScope ["tiles"] ["tiles"] (defScope s_mirrored_tiles) := ⟨rfl, rfl, rfl, by decide +kernel, rfl, by decide +kernel, by decide +kernel⟩
theorem ok_mirrored_tiles (T : Txt K mg t) : FnOk P w K mg base CX0 1 t.f_mirrored_tiles t.d_mirrored_tiles ["tiles"] (sp_nil1 K) := by
  refine T.mirrored_tiles.fn.ok sc_mirrored_tiles (fun vs H Q E h => ?_) (fun cdv A outer s H vs Q E hr h => ?_)
  · obtain ⟨a, rfl, _⟩ := h
    rfl
  obtain ⟨a, rfl, hq, k⟩ := h
  refine ⟨_, (pss_one (ps_ret (pe_comp (N' := ["left", "right", "low_left", "low_right"]) (ix := [none, none, none, none]) (compScope_of (by kernel_rfl)) rfl (kiList K (pv 0)) (fun _ _ _ _ => (kgTup K (n := 4) (pgs_cons (pg_name (i := 0) (show List.Nodup (["left", "right", "low_left", "low_right"] : List Str) from by decide +kernel) rfl (by first | exact Or.inl rfl | exact Or.inr rfl)) (pgs_cons (pg_name (i := 1) (show List.Nodup (["left", "right", "low_left", "low_right"] : List Str) from by decide +kernel) rfl (by first | exact Or.inl rfl | exact Or.inr rfl)) (pgs_cons (pg_name (i := 2) (show List.Nodup (["left", "right", "low_left", "low_right"] : List Str) from by decide +kernel) rfl (by first | exact Or.inl rfl | exact Or.inr rfl)) (pgs_cons (pg_name (i := 3) (show List.Nodup (["left", "right", "low_left", "low_right"] : List Str) from by decide +kernel) rfl (by first | exact Or.inl rfl | exact Or.inr rfl)) pgs_nil)))))) (fun _ _ _ _ => pf_nil) (fun _ _ _ _ => pe_never)))), ?_⟩
  exact rs_ret' (tcompNil (K := K) (gv_var (by rfl)) hq fun D H1 hD s1 hl => k D H1 hD s1 hl)
theorem sc_seam_tiles : FnScope ["tiles", "others", "lefts", "rights", "found", "left"] ["tiles", "others"] (defScope s_seam_tiles) := ⟨rfl, rfl, rfl, by decide +kernel, rfl, by decide +kernel, by decide +kernel⟩
theorem ok_seam_tiles (T : Txt K mg t) : FnOk P w K mg base CX0 1 t.f_seam_tiles t.d_seam_tiles ["tiles", "others"] (sp_nil2 K) := by
  refine T.seam_tiles.fn.ok sc_seam_tiles (fun vs H Q E h => ?_) (fun cdv A outer s H vs Q E hr h => ?_)
  · obtain ⟨a, b, rfl, _⟩ := h
    rfl
  obtain ⟨a, b, rfl, hq, hb, k⟩ := h
  refine ⟨_, (pss_cons (ps_setComp (i := 2) sc_seam_tiles.nd rfl (by first | exact Or.inl rfl | exact Or.inr rfl) (N' := ["tile"]) (ix := [none]) (compScope_of (by kernel_rfl)) rfl (kiList K (pv 0)) (fun _ _ _ _ => (pg_name (i := 0) (show List.Nodup (["tile"] : List Str) from by decide +kernel) rfl (by first | exact Or.inl rfl | exact Or.inr rfl))) (fun _ _ _ _ => (pf_one pt_never)) (fun _ _ _ _ => pe_never)) (pss_cons (ps_setComp (i := 3) sc_seam_tiles.nd rfl (by first | exact Or.inl rfl | exact Or.inr rfl) (N' := ["tile"]) (ix := [none]) (compScope_of (by kernel_rfl)) rfl (kiList K (pv 1)) (fun _ _ _ _ => (pg_name (i := 0) (show List.Nodup (["tile"] : List Str) from by decide +kernel) rfl (by first | exact Or.inl rfl | exact Or.inr rfl))) (fun _ _ _ _ => (pf_one pt_never)) (fun _ _ _ _ => pe_never)) (pss_cons (ps_set (i := 4) sc_seam_tiles.nd rfl (by first | exact Or.inl rfl | exact Or.inr rfl) (pe_lst pa_nil)) (pss_cons (ps_for PassesOwn.never rfl (kiList K (pv 2)) (pg_name (i := 5) sc_seam_tiles.nd rfl (by first | exact Or.inl rfl | exact Or.inr rfl)) (pss_one ps_never)) (pss_one (ps_ret (pv 4))))))), ?_⟩
  refine rq_scNil (K := K) (gv_var (by rfl)) hq fun D H2 hD s02 hl => ?_
  refine rq_scNil (K := K) (gv_var (by rfl)) (s02.seq hb) fun D2 H4 hD2 s24 hl2 => ?_
  refine rq_set' ⟨(by show 0 ≤ sizeLine; decide), fun F hF => ?_⟩
  have s05 := s02.trans (s24.trans (Same.new hF (.lst [])))
  refine rq_forNil (K := K) (gv_var (by rfl)) (SqL.of ((s24.trans (Same.new hF _)) _ _ hl)) fun H5 s5 => ?_
  exact rs_ret (gv_var (by rfl)) fun H6 s6 => k F H6 ((s02.trans s24).free hF) (s05.trans (s5.trans s6)) ((s5.trans s6) _ _ upd_same)
theorem sc_beside_tiles : FnScope ["tiles", "others", "found"] ["tiles", "others"] (defScope s_beside_tiles) := ⟨rfl, rfl, rfl, by decide +kernel, rfl, by decide +kernel, by decide +kernel⟩
theorem ok_beside_tiles (T : Txt K mg t) : FnOk P w K mg base CX0 2 t.f_beside_tiles t.d_beside_tiles ["tiles", "others"] (sp_nil2 K) := by
  have G_seam_tiles : FnOk P w K mg base CX0 1 t.f_seam_tiles t.d_seam_tiles ["tiles", "others"] (sp_nil2 K) := ok_seam_tiles T
  refine T.beside_tiles.fn.ok sc_beside_tiles (fun vs H Q E h => ?_) (fun cdv A outer s H vs Q E hr h => ?_)
  · obtain ⟨a, b, rfl, _⟩ := h
    rfl
  obtain ⟨a, b, rfl, hq, hb, k⟩ := h
  refine ⟨_, (pss_cons (ps_setComp (i := 2) sc_beside_tiles.nd rfl (by first | exact Or.inl rfl | exact Or.inr rfl) (N' := ["tile"]) (ix := [none]) (compScope_of (by kernel_rfl)) rfl (kiList K (pv 0)) (fun _ _ _ _ => (pg_name (i := 0) (show List.Nodup (["tile"] : List Str) from by decide +kernel) rfl (by first | exact Or.inl rfl | exact Or.inr rfl))) (fun _ _ _ _ => (pf_one pt_never)) (fun _ _ _ _ => pe_never)) (pss_cons (ps_expr (kBm K PySem.F.plainAttrs_list PySem.F.slot_list_extend PySem.F.type_list_extend mt_extend (pv 2) (pa_cons (pe_comp (N' := ["tile"]) (ix := [none]) (compScope_of (by kernel_rfl)) rfl (kiList K (pv 1)) (fun _ _ _ _ => (pg_name (i := 0) (show List.Nodup (["tile"] : List Str) from by decide +kernel) rfl (by first | exact Or.inl rfl | exact Or.inr rfl))) (fun _ _ _ _ => (pf_one pt_never)) (fun _ _ _ _ => pe_never)) pa_nil))) (pss_one (ps_ret (pe_op op_cat (pv 2) (pe_callD T.seam_tiles G_seam_tiles (hr.mono (by first | decide | omega)) pass0 (pa_cons (pv 0) (pa_cons (pv 1) pa_nil)))))))), ?_⟩
  refine rq_scNil (K := K) (gv_var (by rfl)) hq fun F H2 hF s02 hl => ?_
  refine rq_drop' ((gv_var (v := .ref F) (by rfl)) _ fun H3 s3 => ⟨.inl ⟨rfl, _, SqL.of (s3 _ _ hl)⟩, tcompNil (K := K) (gv_var (by rfl)) ((s02.trans s3).seq hb) fun D H4 hD s4 hl4 => ⟨F, D, [], [], rfl, rfl, (s3.trans s4) _ _ hl, hl4, (by show 0 ≤ sizeLine; decide), ?_⟩⟩)
  have hF4 := (s3.trans s4) _ _ hl
  have su : Same H4 (upd H4 F (.lst ([] ++ []))) := fun b o e => by
    by_cases z : b = F
    · subst z
      rw [hF4] at e
      cases e
      exact upd_same
    · rw [upd_ne z]; exact e
  have s05 := s02.trans (s3.trans (s4.trans su))
  generalize upd H4 F (.lst ([] ++ [])) = H5 at *
  have hF5 : H5 F = some (.lst []) := su _ _ hF4
  exact rs_ret' (gn_cat (xs := []) (ys := []) (gv_var (by rfl)) hF5 (fun H6 s6 => gn_nil2v (K := K) (gv_var (by rfl)) ((s05.trans s6).seq hq) (fun _ _ => gv_var (by rfl)) ((s05.trans s6).seq hb)) (by show 0 ≤ sizeLine; decide) _ fun p H6 hp s6 hl6 => k p H6 (s05.free hp) (s05.trans s6) hl6)
def okJ (lim : Bool) (x y : Str) (ts us : List (List Int)) : Bool := (sysB x ts && sysB y us) && lim
def limS (x y : Str) : Bool := decide (x.length + y.length ≤ 16)
def limM (x y : Str) : Bool := decide (x.length * y.length ≤ 16)
def sp_join (K : PySem.W.Frag) (C : Addr) (lim : Str → Str → Bool) : Sp := fun vs H Q E => ∃ (a b : Addr) (x y : Str) (ts us : List (List Int)), vs = [.ref a, .ref b] ∧ SysAt K H a x ts ∧ Mild x ts ∧ SysAt K H b y us ∧ Mild y us ∧
  (okJ (lim x y) x y ts us = true → EmpAt K H a x ∧ EmpAt K H b y ∧ AB x y ∧ ∀ v H', Same H H' → Q v H') ∧ (okJ (lim x y) x y ts us = false → ∀ H', Same H H' → E (.ref C) none H')
def sp_one (K : PySem.W.Frag) (C : Addr) : Sp := fun vs H Q E => ∃ (a : Addr) (x : Str) (ts : List (List Int)), vs = [.ref a] ∧ SysAt K H a x ts ∧ Mild x ts ∧
  (sysB x ts = true → EmpAt K H a x ∧ ∀ v H', Same H H' → Q v H') ∧ (sysB x ts = false → ∀ H', Same H H' → E (.ref C) none H')
/-- (text, new list): told -/
theorem t_pair {ta tb : TE} {σ : L2.St} {H : Hp} {R : VK} {x : Str} (h : Gv ta σ H (.str x)) (g : ∀ H', Same H H' → Gn tb σ H' []) (k : ∀ v H', Same H H' → R v H') : tTup (tCons ta (tCons tb tNil)) σ H R :=
  h _ fun H1 s1 => g H1 s1 _ fun p H2 hp s2 hl => ⟨(by show 2 ≤ sizeLine; decide), fun q hq => k _ _ (s1.trans (s2.trans (Same.new hq _)))⟩
section
variable {a b : Addr} {x y : Str} {ts us : List (List Int)}
theorem okJ_two {l : Bool} (h : (sysB x ts && sysB y us) = false) : okJ l x y ts us = false := by unfold okJ; rw [h]; rfl
theorem okJ_lim {l : Bool} (h : l = false) : okJ l x y ts us = false := by unfold okJ; rw [h, Bool.and_false]
theorem okJ_ok {l : Bool} (h1 : sysB x ts = true) (h2 : sysB y us = true) (h : l = true) : okJ l x y ts us = true := by unfold okJ; rw [h1, h2, h]; rfl
end
theorem sc_either : FnScope ["one", "other"] ["one", "other"] (defScope s_either) := ⟨rfl, rfl, rfl, by decide +kernel, rfl, by decide +kernel, by decide +kernel⟩
theorem ok_either (T : Txt K mg t) : FnOk P w K mg base (CX1 P w) 5 t.f_either t.d_either ["one", "other"] (sp_join K t.c_BadSystem limS) := by
  have G_look_both : FnOk P w K mg base (CX1 P w) 4 t.f_look_both t.d_look_both ["one", "other"] (sp_two K t.c_BadSystem) := ok_look_both T
  have G_look_together : FnOk P w K mg base (CX1 P w) 1 t.f_look_together t.d_look_together ["marks"] (sp_tog t.c_BadSystem) := ok_look_together T
  have G_each_once : FnOk P w K mg base CX0 1 t.f_each_once t.d_each_once ["tiles"] (sp_nil1 K) := ok_each_once T
  have G_moved_tiles : FnOk P w K mg base CX0 1 t.f_moved_tiles t.d_moved_tiles ["tiles", "by"] (sp_nilV K) := ok_moved_tiles T
  refine T.either.fn.okX sc_either (fun vs H Q E h => ?_) (fun cdv A outer s H vs Q E hr h => ?_)
  · obtain ⟨a, b, x, y, ts, us, rfl, _⟩ := h
    rfl
  obtain ⟨a, b, x, y, ts, us, rfl, hA, hM, hB, hN, k1, k2⟩ := h
  have hx := hM.short
  have hy := hN.short
  obtain ⟨TA, hTA, _⟩ := id hA
  obtain ⟨TB, hTB, _⟩ := id hB
  refine ⟨_, (pss_cons (ps_expr (pe_callD T.look_both G_look_both (hr.mono (by first | decide | omega)) (passes1 raiseX rfl rfl rfl (fun _ _ _ z => z)) (pa_cons (pv 0) (pa_cons (pv 1) pa_nil)))) (pss_cons (ps_expr (pe_callD T.look_together G_look_together (hr.mono (by first | decide | omega)) (passes1 raiseX rfl rfl rfl (fun _ _ _ z => z)) (pa_cons (pe_op op_add (pe_callB (kLen K) (by rfl) T.n_len boot_len (pa_cons (pe_ix (kIxT K) (pv 0) pe_int (fun _ _ => rfl)) pa_nil)) (pe_callB (kLen K) (by rfl) T.n_len boot_len (pa_cons (pe_ix (kIxT K) (pv 1) pe_int (fun _ _ => rfl)) pa_nil))) pa_nil))) (pss_one (ps_ret (pe_tup (pa_cons (pe_op op_add_str (pe_ix (kIxT K) (pv 0) pe_int (fun _ _ => rfl)) (pe_ix (kIxT K) (pv 1) pe_int (fun _ _ => rfl))) (pa_cons (pe_callD T.each_once G_each_once (hr.mono (by first | decide | omega)) pass0 (pa_cons (pe_op op_cat (pe_ix (kIxT K) (pv 0) pe_int (fun _ _ => rfl)) (pe_callD T.moved_tiles G_moved_tiles (hr.mono (by first | decide | omega)) pass0 (pa_cons (pe_ix (kIxT K) (pv 1) pe_int (fun _ _ => rfl)) (pa_cons (pe_callB (kLen K) (by rfl) T.n_len boot_len (pa_cons (pe_ix (kIxT K) (pv 0) pe_int (fun _ _ => rfl)) pa_nil)) pa_nil)))) pa_nil)) pa_nil))))))), ?_⟩
  refine rq_drop' (tcall (ga_cons (gv_var (by rfl)) fun _ _ => ga_1 (gv_var (by rfl))) fun H1 s1 => ⟨a, b, x, y, ts, us, rfl, hA.same s1, hM, hB.same s1, hN, fun c1 c2 H2 s2 => ?_, fun c H2 s2 => k2 (okJ_two c) H2 (s1.trans s2)⟩)
  have s02 := s1.trans s2
  refine rq_drop' (tcall (ga_1 (gv_ii (gv_lenS (K := K) (ga_1 (gv_ixT (K := K) (gv_var (by rfl)) (fun _ _ => gv_c) (s02.tup hTA) (atI_nat (j := 0) rfl))) (small (by omega))) fun H3 s3 => gv_lenS (K := K) (ga_1 (gv_ixT (K := K) (gv_var (by rfl)) (fun _ _ => gv_c) ((s02.trans s3).tup hTB) (atI_nat (j := 0) rfl))) (small (by omega)))) fun H3 s3 => ⟨_, rfl, fun c3 H4 s4 => ?_, fun c3 H4 s4 => k2 (okJ_lim (decide_eq_false (by omega))) H4 (s02.trans (s3.trans s4))⟩)
  have s04 := s02.trans (s3.trans s4)
  obtain ⟨⟨TA, hTA, hLA⟩, ⟨TB, hTB, hLB⟩, _, k⟩ := k1 (okJ_ok c1 c2 (decide_eq_true (by omega)))
  refine rs_ret' (t_pair (x := x ++ y) (gv_addS (gv_ixT (K := K) (gv_var (by rfl)) (fun _ _ => gv_c) (s04.tup hTA) (atI_nat (j := 0) rfl)) (fun H5 s5 => gv_ixT (K := K) (gv_var (by rfl)) (fun _ _ => gv_c) ((s04.trans s5).tup hTB) (atI_nat (j := 0) rfl)) (small (by omega))) (fun H5 s5 => ?_) fun v H5 s5 => k v H5 (s04.trans s5))
  have s05 := s04.trans s5
  exact gn_nil1 (gn_cat (xs := []) (ys := []) (gv_ixT (K := K) (gv_var (by rfl)) (fun _ _ => gv_c) (s05.tup hTA) (atI_nat (j := 1) rfl)) (s05 _ _ hLA) (fun H6 s6 => gn_nilVv (K := K) (gv_ixT (K := K) (gv_var (by rfl)) (fun _ _ => gv_c) ((s05.trans s6).tup hTB) (atI_nat (j := 1) rfl)) (SqL.of ((s05.trans s6) _ _ hLB)) fun H7 s7 => gv_lenS (K := K) (ga_1 (gv_ixT (K := K) (gv_var (by rfl)) (fun _ _ => gv_c) ((s05.trans (s6.trans s7)).tup hTA) (atI_nat (j := 0) rfl))) (small (by omega))) (by show 0 ≤ sizeLine; decide))
end
end K41

set_option maxHeartbeats 1000000
namespace K41
open PySem PySem.Spec PyProof.Rows L2
section
variable {P : Program} {w : World} {K : PySem.W.Frag} {mg : Str → Option Value} {base : Heap} {t : Ad}
theorem sc_beside_of : FnScope ["one", "other"] ["one", "other"] (defScope s_beside_of) := ⟨rfl, rfl, rfl, by decide +kernel, rfl, by decide +kernel, by decide +kernel⟩
theorem ok_beside_of (T : Txt K mg t) : FnOk P w K mg base (CX1 P w) 5 t.f_beside_of t.d_beside_of ["one", "other"] (sp_join K t.c_BadSystem limS) := by
  have G_look_both : FnOk P w K mg base (CX1 P w) 4 t.f_look_both t.d_look_both ["one", "other"] (sp_two K t.c_BadSystem) := ok_look_both T
  have G_look_together : FnOk P w K mg base (CX1 P w) 1 t.f_look_together t.d_look_together ["marks"] (sp_tog t.c_BadSystem) := ok_look_together T
  have G_each_once : FnOk P w K mg base CX0 1 t.f_each_once t.d_each_once ["tiles"] (sp_nil1 K) := ok_each_once T
  have G_moved_tiles : FnOk P w K mg base CX0 1 t.f_moved_tiles t.d_moved_tiles ["tiles", "by"] (sp_nilV K) := ok_moved_tiles T
  have G_beside_tiles : FnOk P w K mg base CX0 2 t.f_beside_tiles t.d_beside_tiles ["tiles", "others"] (sp_nil2 K) := ok_beside_tiles T
  refine T.beside_of.fn.okX sc_beside_of (fun vs H Q E h => ?_) (fun cdv A outer s H vs Q E hr h => ?_)
  · obtain ⟨a, b, x, y, ts, us, rfl, _⟩ := h
    rfl
  obtain ⟨a, b, x, y, ts, us, rfl, hA, hM, hB, hN, k1, k2⟩ := h
  have hx := hM.short
  have hy := hN.short
  obtain ⟨TA, hTA, _⟩ := id hA
  obtain ⟨TB, hTB, _⟩ := id hB
  refine ⟨_, (pss_cons (ps_expr (pe_callD T.look_both G_look_both (hr.mono (by first | decide | omega)) (passes1 raiseX rfl rfl rfl (fun _ _ _ z => z)) (pa_cons (pv 0) (pa_cons (pv 1) pa_nil)))) (pss_cons (ps_expr (pe_callD T.look_together G_look_together (hr.mono (by first | decide | omega)) (passes1 raiseX rfl rfl rfl (fun _ _ _ z => z)) (pa_cons (pe_op op_add (pe_callB (kLen K) (by rfl) T.n_len boot_len (pa_cons (pe_ix (kIxT K) (pv 0) pe_int (fun _ _ => rfl)) pa_nil)) (pe_callB (kLen K) (by rfl) T.n_len boot_len (pa_cons (pe_ix (kIxT K) (pv 1) pe_int (fun _ _ => rfl)) pa_nil))) pa_nil))) (pss_one (ps_ret (pe_tup (pa_cons (pe_op op_add_str (pe_ix (kIxT K) (pv 0) pe_int (fun _ _ => rfl)) (pe_ix (kIxT K) (pv 1) pe_int (fun _ _ => rfl))) (pa_cons (pe_callD T.each_once G_each_once (hr.mono (by first | decide | omega)) pass0 (pa_cons (pe_callD T.beside_tiles G_beside_tiles (hr.mono (by first | decide | omega)) pass0 (pa_cons (pe_ix (kIxT K) (pv 0) pe_int (fun _ _ => rfl)) (pa_cons (pe_callD T.moved_tiles G_moved_tiles (hr.mono (by first | decide | omega)) pass0 (pa_cons (pe_ix (kIxT K) (pv 1) pe_int (fun _ _ => rfl)) (pa_cons (pe_callB (kLen K) (by rfl) T.n_len boot_len (pa_cons (pe_ix (kIxT K) (pv 0) pe_int (fun _ _ => rfl)) pa_nil)) pa_nil))) pa_nil))) pa_nil)) pa_nil))))))), ?_⟩
  refine rq_drop' (tcall (ga_cons (gv_var (by rfl)) fun _ _ => ga_1 (gv_var (by rfl))) fun H1 s1 => ⟨a, b, x, y, ts, us, rfl, hA.same s1, hM, hB.same s1, hN, fun c1 c2 H2 s2 => ?_, fun c H2 s2 => k2 (okJ_two c) H2 (s1.trans s2)⟩)
  have s02 := s1.trans s2
  refine rq_drop' (tcall (ga_1 (gv_ii (gv_lenS (K := K) (ga_1 (gv_ixT (K := K) (gv_var (by rfl)) (fun _ _ => gv_c) (s02.tup hTA) (atI_nat (j := 0) rfl))) (small (by omega))) fun H3 s3 => gv_lenS (K := K) (ga_1 (gv_ixT (K := K) (gv_var (by rfl)) (fun _ _ => gv_c) ((s02.trans s3).tup hTB) (atI_nat (j := 0) rfl))) (small (by omega)))) fun H3 s3 => ⟨_, rfl, fun c3 H4 s4 => ?_, fun c3 H4 s4 => k2 (okJ_lim (decide_eq_false (by omega))) H4 (s02.trans (s3.trans s4))⟩)
  have s04 := s02.trans (s3.trans s4)
  obtain ⟨⟨TA, hTA, hLA⟩, ⟨TB, hTB, hLB⟩, _, k⟩ := k1 (okJ_ok c1 c2 (decide_eq_true (by omega)))
  refine rs_ret' (t_pair (x := x ++ y) (gv_addS (gv_ixT (K := K) (gv_var (by rfl)) (fun _ _ => gv_c) (s04.tup hTA) (atI_nat (j := 0) rfl)) (fun H5 s5 => gv_ixT (K := K) (gv_var (by rfl)) (fun _ _ => gv_c) ((s04.trans s5).tup hTB) (atI_nat (j := 0) rfl)) (small (by omega))) (fun H5 s5 => ?_) fun v H5 s5 => k v H5 (s04.trans s5))
  have s05 := s04.trans s5
  exact gn_nil1 (gn_nil2vn (K := K) (gv_ixT (K := K) (gv_var (by rfl)) (fun _ _ => gv_c) (s05.tup hTA) (atI_nat (j := 1) rfl)) (SqL.of (s05 _ _ hLA)) fun H6 s6 => gn_nilVv (K := K) (gv_ixT (K := K) (gv_var (by rfl)) (fun _ _ => gv_c) ((s05.trans s6).tup hTB) (atI_nat (j := 1) rfl)) (SqL.of ((s05.trans s6) _ _ hLB)) fun H7 s7 => gv_lenS (K := K) (ga_1 (gv_ixT (K := K) (gv_var (by rfl)) (fun _ _ => gv_c) ((s05.trans (s6.trans s7)).tup hTA) (atI_nat (j := 0) rfl))) (small (by omega)))
theorem sc_over_of : FnScope ["one", "other", "stood"] ["one", "other"] (defScope s_over_of) := ⟨rfl, rfl, rfl, by decide +kernel, rfl, by decide +kernel, by decide +kernel⟩
theorem ok_over_of (T : Txt K mg t) : FnOk P w K mg base (CX1 P w) 5 t.f_over_of t.d_over_of ["one", "other"] (sp_join K t.c_BadSystem limS) := by
  have G_look_both : FnOk P w K mg base (CX1 P w) 4 t.f_look_both t.d_look_both ["one", "other"] (sp_two K t.c_BadSystem) := ok_look_both T
  have G_look_together : FnOk P w K mg base (CX1 P w) 1 t.f_look_together t.d_look_together ["marks"] (sp_tog t.c_BadSystem) := ok_look_together T
  have G_each_once : FnOk P w K mg base CX0 1 t.f_each_once t.d_each_once ["tiles"] (sp_nil1 K) := ok_each_once T
  have G_stood_tiles : FnOk P w K mg base CX0 1 t.f_stood_tiles t.d_stood_tiles ["tiles"] (sp_nil1 K) := ok_stood_tiles T
  have G_moved_tiles : FnOk P w K mg base CX0 1 t.f_moved_tiles t.d_moved_tiles ["tiles", "by"] (sp_nilV K) := ok_moved_tiles T
  have G_beside_tiles : FnOk P w K mg base CX0 2 t.f_beside_tiles t.d_beside_tiles ["tiles", "others"] (sp_nil2 K) := ok_beside_tiles T
  refine T.over_of.fn.okX sc_over_of (fun vs H Q E h => ?_) (fun cdv A outer s H vs Q E hr h => ?_)
  · obtain ⟨a, b, x, y, ts, us, rfl, _⟩ := h
    rfl
  obtain ⟨a, b, x, y, ts, us, rfl, hA, hM, hB, hN, k1, k2⟩ := h
  have hx := hM.short
  have hy := hN.short
  obtain ⟨TA, hTA, _⟩ := id hA
  obtain ⟨TB, hTB, _⟩ := id hB
  refine ⟨_, (pss_cons (ps_expr (pe_callD T.look_both G_look_both (hr.mono (by first | decide | omega)) (passes1 raiseX rfl rfl rfl (fun _ _ _ z => z)) (pa_cons (pv 0) (pa_cons (pv 1) pa_nil)))) (pss_cons (ps_expr (pe_callD T.look_together G_look_together (hr.mono (by first | decide | omega)) (passes1 raiseX rfl rfl rfl (fun _ _ _ z => z)) (pa_cons (pe_op op_add (pe_callB (kLen K) (by rfl) T.n_len boot_len (pa_cons (pe_ix (kIxT K) (pv 0) pe_int (fun _ _ => rfl)) pa_nil)) (pe_callB (kLen K) (by rfl) T.n_len boot_len (pa_cons (pe_ix (kIxT K) (pv 1) pe_int (fun _ _ => rfl)) pa_nil))) pa_nil))) (pss_cons (ps_set (i := 2) sc_over_of.nd rfl (by first | exact Or.inl rfl | exact Or.inr rfl) (pe_callD T.beside_tiles G_beside_tiles (hr.mono (by first | decide | omega)) pass0 (pa_cons (pe_callD T.stood_tiles G_stood_tiles (hr.mono (by first | decide | omega)) pass0 (pa_cons (pe_ix (kIxT K) (pv 0) pe_int (fun _ _ => rfl)) pa_nil)) (pa_cons (pe_callD T.stood_tiles G_stood_tiles (hr.mono (by first | decide | omega)) pass0 (pa_cons (pe_callD T.moved_tiles G_moved_tiles (hr.mono (by first | decide | omega)) pass0 (pa_cons (pe_ix (kIxT K) (pv 1) pe_int (fun _ _ => rfl)) (pa_cons (pe_callB (kLen K) (by rfl) T.n_len boot_len (pa_cons (pe_ix (kIxT K) (pv 0) pe_int (fun _ _ => rfl)) pa_nil)) pa_nil))) pa_nil)) pa_nil)))) (pss_one (ps_ret (pe_tup (pa_cons (pe_op op_add_str (pe_ix (kIxT K) (pv 0) pe_int (fun _ _ => rfl)) (pe_ix (kIxT K) (pv 1) pe_int (fun _ _ => rfl))) (pa_cons (pe_callD T.each_once G_each_once (hr.mono (by first | decide | omega)) pass0 (pa_cons (pe_callD T.stood_tiles G_stood_tiles (hr.mono (by first | decide | omega)) pass0 (pa_cons (pv 2) pa_nil)) pa_nil)) pa_nil)))))))), ?_⟩
  refine rq_drop' (tcall (ga_cons (gv_var (by rfl)) fun _ _ => ga_1 (gv_var (by rfl))) fun H1 s1 => ⟨a, b, x, y, ts, us, rfl, hA.same s1, hM, hB.same s1, hN, fun c1 c2 H2 s2 => ?_, fun c H2 s2 => k2 (okJ_two c) H2 (s1.trans s2)⟩)
  have s02 := s1.trans s2
  refine rq_drop' (tcall (ga_1 (gv_ii (gv_lenS (K := K) (ga_1 (gv_ixT (K := K) (gv_var (by rfl)) (fun _ _ => gv_c) (s02.tup hTA) (atI_nat (j := 0) rfl))) (small (by omega))) fun H3 s3 => gv_lenS (K := K) (ga_1 (gv_ixT (K := K) (gv_var (by rfl)) (fun _ _ => gv_c) ((s02.trans s3).tup hTB) (atI_nat (j := 0) rfl))) (small (by omega)))) fun H3 s3 => ⟨_, rfl, fun c3 H4 s4 => ?_, fun c3 H4 s4 => k2 (okJ_lim (decide_eq_false (by omega))) H4 (s02.trans (s3.trans s4))⟩)
  have s04 := s02.trans (s3.trans s4)
  obtain ⟨⟨TA, hTA, hLA⟩, ⟨TB, hTB, hLB⟩, _, k⟩ := k1 (okJ_ok c1 c2 (decide_eq_true (by omega)))
  refine rq_set' ((gn_nil2nn (K := K) (gn_nil1v (gv_ixT (K := K) (gv_var (by rfl)) (fun _ _ => gv_c) (s04.tup hTA) (atI_nat (j := 1) rfl)) (SqL.of (s04 _ _ hLA))) fun H6 s6 => gn_nil1 (gn_nilVv (K := K) (gv_ixT (K := K) (gv_var (by rfl)) (fun _ _ => gv_c) ((s04.trans s6).tup hTB) (atI_nat (j := 1) rfl)) (SqL.of ((s04.trans s6) _ _ hLB)) fun H7 s7 => gv_lenS (K := K) (ga_1 (gv_ixT (K := K) (gv_var (by rfl)) (fun _ _ => gv_c) ((s04.trans (s6.trans s7)).tup hTA) (atI_nat (j := 0) rfl))) (small (by omega)))) _ fun F H5 hF s5 hF5 => ?_)
  have s05 := s04.trans s5
  exact rs_ret' (t_pair (x := x ++ y) (gv_addS (gv_ixT (K := K) (gv_var (by rfl)) (fun _ _ => gv_c) (s05.tup hTA) (atI_nat (j := 0) rfl)) (fun H6 s6 => gv_ixT (K := K) (gv_var (by rfl)) (fun _ _ => gv_c) ((s05.trans s6).tup hTB) (atI_nat (j := 0) rfl)) (small (by omega))) (fun H6 s6 => gn_nil1 (gn_nil1v (gv_var (by rfl)) (SqL.of (s6 _ _ hF5)))) fun v H6 s6 => k v H6 (s05.trans s6))
theorem sc_mirrored_of : FnScope ["system"] ["system"] (defScope s_mirrored_of) := ⟨rfl, rfl, rfl, by decide +kernel, rfl, by decide +kernel, by decide +kernel⟩
theorem ok_mirrored_of (T : Txt K mg t) : FnOk P w K mg base (CX1 P w) 4 t.f_mirrored_of t.d_mirrored_of ["system"] (sp_one K t.c_BadSystem) := by
  have G_look_system : FnOk P w K mg base (CX1 P w) 3 t.f_look_system t.d_look_system ["system"] (sp_lookS K t.c_BadSystem) := ok_look_system T
  have G_mirrored_tiles : FnOk P w K mg base CX0 1 t.f_mirrored_tiles t.d_mirrored_tiles ["tiles"] (sp_nil1 K) := ok_mirrored_tiles T
  refine T.mirrored_of.fn.okX sc_mirrored_of (fun vs H Q E h => ?_) (fun cdv A outer s H vs Q E hr h => ?_)
  · obtain ⟨a, x, ts, rfl, _⟩ := h
    rfl
  obtain ⟨a, x, ts, rfl, hA, hM, k1, k2⟩ := h
  refine ⟨_, (pss_cons (ps_expr (pe_callD T.look_system G_look_system (hr.mono (by first | decide | omega)) (passes1 raiseX rfl rfl rfl (fun _ _ _ z => z)) (pa_cons (pv 0) pa_nil))) (pss_one (ps_ret (pe_tup (pa_cons (pe_ix (kIxT K) (pv 0) pe_int (fun _ _ => rfl)) (pa_cons (pe_callB (kSortedL K) (by rfl) T.n_sorted boot_sorted (pa_cons (pe_callD T.mirrored_tiles G_mirrored_tiles (hr.mono (by first | decide | omega)) pass0 (pa_cons (pe_ix (kIxT K) (pv 0) pe_int (fun _ _ => rfl)) pa_nil)) pa_nil)) pa_nil)))))), ?_⟩
  refine rq_drop' (tcall (ga_1 (gv_var (by rfl))) fun H1 s1 => ⟨a, x, ts, rfl, hA.same s1, hM, fun c1 H2 s2 => ?_, fun c1 H2 s2 => k2 c1 H2 (s1.trans s2)⟩)
  have s02 := s1.trans s2
  obtain ⟨⟨TA, hTA, hLA⟩, k⟩ := k1 c1
  exact rs_ret' (t_pair (x := x) (gv_ixT (K := K) (gv_var (by rfl)) (fun _ _ => gv_c) (s02.tup hTA) (atI_nat (j := 0) rfl)) (fun H6 s6 => gn_srtN (K := K) (gn_nil1v (gv_ixT (K := K) (gv_var (by rfl)) (fun _ _ => gv_c) ((s02.trans s6).tup hTA) (atI_nat (j := 1) rfl)) (SqL.of ((s02.trans s6) _ _ hLA)))) fun v H6 s6 => k v H6 (s02.trans s6))
theorem sc_stood_system : FnScope ["system"] ["system"] (defScope s_stood_system) := ⟨rfl, rfl, rfl, by decide +kernel, rfl, by decide +kernel, by decide +kernel⟩
theorem ok_stood_system (T : Txt K mg t) : FnOk P w K mg base (CX1 P w) 4 t.f_stood_system t.d_stood_system ["system"] (sp_one K t.c_BadSystem) := by
  have G_look_system : FnOk P w K mg base (CX1 P w) 3 t.f_look_system t.d_look_system ["system"] (sp_lookS K t.c_BadSystem) := ok_look_system T
  have G_stood_tiles : FnOk P w K mg base CX0 1 t.f_stood_tiles t.d_stood_tiles ["tiles"] (sp_nil1 K) := ok_stood_tiles T
  refine T.stood_system.fn.okX sc_stood_system (fun vs H Q E h => ?_) (fun cdv A outer s H vs Q E hr h => ?_)
  · obtain ⟨a, x, ts, rfl, _⟩ := h
    rfl
  obtain ⟨a, x, ts, rfl, hA, hM, k1, k2⟩ := h
  refine ⟨_, (pss_cons (ps_expr (pe_callD T.look_system G_look_system (hr.mono (by first | decide | omega)) (passes1 raiseX rfl rfl rfl (fun _ _ _ z => z)) (pa_cons (pv 0) pa_nil))) (pss_one (ps_ret (pe_tup (pa_cons (pe_ix (kIxT K) (pv 0) pe_int (fun _ _ => rfl)) (pa_cons (pe_callB (kSortedL K) (by rfl) T.n_sorted boot_sorted (pa_cons (pe_callD T.stood_tiles G_stood_tiles (hr.mono (by first | decide | omega)) pass0 (pa_cons (pe_ix (kIxT K) (pv 0) pe_int (fun _ _ => rfl)) pa_nil)) pa_nil)) pa_nil)))))), ?_⟩
  refine rq_drop' (tcall (ga_1 (gv_var (by rfl))) fun H1 s1 => ⟨a, x, ts, rfl, hA.same s1, hM, fun c1 H2 s2 => ?_, fun c1 H2 s2 => k2 c1 H2 (s1.trans s2)⟩)
  have s02 := s1.trans s2
  obtain ⟨⟨TA, hTA, hLA⟩, k⟩ := k1 c1
  exact rs_ret' (t_pair (x := x) (gv_ixT (K := K) (gv_var (by rfl)) (fun _ _ => gv_c) (s02.tup hTA) (atI_nat (j := 0) rfl)) (fun H6 s6 => gn_srtN (K := K) (gn_nil1v (gv_ixT (K := K) (gv_var (by rfl)) (fun _ _ => gv_c) ((s02.trans s6).tup hTA) (atI_nat (j := 1) rfl)) (SqL.of ((s02.trans s6) _ _ hLA)))) fun v H6 s6 => k v H6 (s02.trans s6))
end
end K41

set_option maxHeartbeats 1000000
namespace K41
open PySem PySem.Spec PyProof.Rows L2
section
variable {P : Program} {w : World} {K : PySem.W.Frag} {mg : Str → Option Value} {base : Heap} {t : Ad}
theorem lt128 {x : Str} {c : Nat} (hc : c < 128) (h : ∀ d ∈ x.cps.toList, d = c) : x.cps.all (· < 128) = true := by
  rw [← Array.all_toList, List.all_eq_true]
  intro d hd
  rw [h d hd]
  exact decide_eq_true hc
theorem getD_all {x : Str} {c i : Nat} (h : ∀ d ∈ x.cps.toList, d = c) (hi : i < x.cps.size) : x.cps.getD i 0 = c := by
  refine h _ ?_
  rw [Array.mem_toList_iff, Array.getD_eq_getD_getElem?, Array.getElem?_eq_getElem hi]
  exact Array.getElem_mem hi
def sp_pairs : Sp := fun vs H Q _ => ∃ x y : Str, vs = [.str x, .str y] ∧ AB x y ∧ ∀ p H', H p = none → Same H H' → H' p = some (emptyD p) → Q (.ref p) H'
theorem sc_pairs_of_marks : FnScope ["one", "other", "found", "left", "letter", "right", "other_letter"] ["one", "other"] (defScope s_pairs_of_marks) := ⟨rfl, rfl, rfl, by decide +kernel, rfl, by decide +kernel, by decide +kernel⟩
theorem ok_pairs_of_marks (T : Txt K mg t) : FnOk P w K mg base CX0 1 t.f_pairs_of_marks t.d_pairs_of_marks ["one", "other"] sp_pairs := by
  refine T.pairs_of_marks.fn.ok sc_pairs_of_marks (fun vs H Q E h => ?_) (fun cdv A outer s H vs Q E hr h => ?_)
  · obtain ⟨x, y, rfl, _⟩ := h
    rfl
  obtain ⟨x, y, rfl, hab, k⟩ := h
  refine ⟨_, (pss_cons (ps_set (i := 2) sc_pairs_of_marks.nd rfl (by first | exact Or.inl rfl | exact Or.inr rfl) kENew) (pss_cons (ps_for PassesOwn.never rfl (pi_enumS T.n_enumerate (pa_cons (pv 0) pa_nil)) (kgTup K (n := 2) (pgs_cons (pg_name (i := 3) sc_pairs_of_marks.nd rfl (by first | exact Or.inl rfl | exact Or.inr rfl)) (pgs_cons (pg_name (i := 4) sc_pairs_of_marks.nd rfl (by first | exact Or.inl rfl | exact Or.inr rfl)) pgs_nil))) (pss_one (ps_for PassesOwn.never rfl (pi_enumS T.n_enumerate (pa_cons (pv 1) pa_nil)) (kgTup K (n := 2) (pgs_cons (pg_name (i := 5) sc_pairs_of_marks.nd rfl (by first | exact Or.inl rfl | exact Or.inr rfl)) (pgs_cons (pg_name (i := 6) sc_pairs_of_marks.nd rfl (by first | exact Or.inl rfl | exact Or.inr rfl)) pgs_nil))) (pss_one (ps_if (pt_cmpR op_eq (pv 4) (pv 6) (nomark _)) (pss_one ps_never) pss_nil))))) (pss_one (ps_ret (pv 2))))), ?_⟩
  refine rq_set' fun p hp => ?_
  refine rq_forE (K := K) (ga_1 (gv_var (by rfl))) (lt128 (by decide) hab.1) (fun i σ H1 => ∃ e3 e4 e5 e6, σ = [some (.str x), some (.str y), some (.ref p), e3, e4, e5, e6] ∧ Same (upd H p (emptyD p)) H1) (fun H1 s1 => ⟨none, none, none, none, rfl, s1⟩) ?_ ?_
  · rintro i σ H1 tp hi ⟨e3, e4, e5, e6, rfl, s1⟩ htp
    refine rs_forE (K := K) (ga_1 (gv_var (by rfl))) (lt128 (by decide) hab.2) (fun j σ H2 => ∃ e5 e6, σ = [some (.str x), some (.str y), some (.ref p), some (.int (i : Int)), some (signAt x i), e5, e6] ∧ Same (upd H p (emptyD p)) H2) (fun H2 s2 => ⟨e5, e6, rfl, s1.trans ((Same.new htp _).trans s2)⟩) ?_ ?_
    · rintro j σ H2 tq hj ⟨e5, e6, rfl, s2⟩ htq
      refine rs_if2 (b := false) (gt_eq (gt_test (gv_eqI (gv_var (by rfl)) (fun _ _ => gv_var (by rfl)) (by rfl))) ?_) (fun z => absurd z (by decide)) fun _ H3 s3 => ⟨_, _, rfl, s2.trans ((Same.new htq _).trans s3)⟩
      refine decide_eq_false fun e => ?_
      have e1 : signAt x i = .str ⟨#[97]⟩ := by
        show V.str ⟨#[x.cps.getD i 0]⟩ = _
        rw [getD_all hab.1 hi]
      have e2 : signAt y j = .str ⟨#[98]⟩ := by
        show V.str ⟨#[y.cps.getD j 0]⟩ = _
        rw [getD_all hab.2 hj]
      rw [e1, e2] at e
      injection e with e
      injection e with e
      revert e
      decide
    · rintro σ H2 ⟨e5, e6, rfl, s2⟩
      exact ⟨_, _, _, _, rfl, s2⟩
  · rintro σ H1 ⟨e3, e4, e5, e6, rfl, s1⟩
    exact rs_ret (gv_var (by rfl)) fun H2 s2 => k p H2 hp ((Same.new hp _).trans (s1.trans s2)) ((s1.trans s2) _ _ upd_same)
end
end K41

set_option maxHeartbeats 1000000
namespace K41
open PySem PySem.Spec PyProof.Rows L2
section
variable {P : Program} {w : World} {K : PySem.W.Frag} {mg : Str → Option Value} {base : Heap} {t : Ad}
def sp_any1 (K : PySem.W.Frag) : Sp := fun vs H Q _ => ∃ a x, vs = [.ref a] ∧ EmpAt K H a x ∧ ∀ v H', Same H H' → Q v H'
theorem sc_tiles_by_face : FnScope ["system", "found", "tile"] ["system"] (defScope s_tiles_by_face) := ⟨rfl, rfl, rfl, by decide +kernel, rfl, by decide +kernel, by decide +kernel⟩
theorem ok_tiles_by_face (T : Txt K mg t) : FnOk P w K mg base CX0 1 t.f_tiles_by_face t.d_tiles_by_face ["system"] (sp_any1 K) := by
  refine T.tiles_by_face.fn.ok sc_tiles_by_face (fun vs H Q E h => ?_) (fun cdv A outer s H vs Q E hr h => ?_)
  · obtain ⟨a, x, rfl, _⟩ := h
    rfl
  obtain ⟨a, x, rfl, ⟨TA, hTA, hLA⟩, k⟩ := h
  refine ⟨_, (pss_cons (ps_set (i := 1) sc_tiles_by_face.nd rfl (by first | exact Or.inl rfl | exact Or.inr rfl) kENew) (pss_cons (ps_for PassesOwn.never rfl (kiList K (pe_ix (kIxT K) (pv 0) pe_int (fun _ _ => rfl))) (pg_name (i := 2) sc_tiles_by_face.nd rfl (by first | exact Or.inl rfl | exact Or.inr rfl)) (pss_one ps_never)) (pss_one (ps_ret (pv 1))))), ?_⟩
  refine rq_set' fun p hp => ?_
  have s1 : Same H (upd H p (emptyD p)) := Same.new hp _
  refine rq_forNil (K := K) (gv_ixT (K := K) (gv_var (by rfl)) (fun _ _ => gv_c) (s1.tup hTA) (atI_nat (j := 1) rfl)) (SqL.of (s1 _ _ hLA)) fun H5 s5 => ?_
  exact rs_ret (gv_var (by rfl)) fun H6 s6 => k _ H6 (s1.trans (s5.trans s6))
def sp_paired (K : PySem.W.Frag) : Sp := fun vs H Q _ => ∃ a b m x y, vs = [.ref a, .ref b, .ref m] ∧ EmpAt K H a x ∧ EmpAt K H b y ∧ H m = some (emptyD m) ∧ ∀ p H', H p = none → Same H H' → H' p = some (.lst []) → Q (.ref p) H'
theorem sc_paired_tiles : FnScope ["one", "other", "marks", "fields", "partners", "found", "tile", "partner"] ["one", "other", "marks"] (defScope s_paired_tiles) := ⟨rfl, rfl, rfl, by decide +kernel, rfl, by decide +kernel, by decide +kernel⟩
theorem ok_paired_tiles (T : Txt K mg t) : FnOk P w K mg base CX0 2 t.f_paired_tiles t.d_paired_tiles ["one", "other", "marks"] (sp_paired K) := by
  have G_tiles_by_face : FnOk P w K mg base CX0 1 t.f_tiles_by_face t.d_tiles_by_face ["system"] (sp_any1 K) := ok_tiles_by_face T
  refine T.paired_tiles.fn.ok sc_paired_tiles (fun vs H Q E h => ?_) (fun cdv A outer s H vs Q E hr h => ?_)
  · obtain ⟨a, b, m, x, y, rfl, _⟩ := h
    rfl
  obtain ⟨a, b, m, x, y, rfl, hA, hB, hm, k⟩ := h
  refine ⟨_, (pss_cons (ps_set (i := 3) sc_paired_tiles.nd rfl (by first | exact Or.inl rfl | exact Or.inr rfl) (pe_callTy (kDictE K P w) (by rfl) T.n_dict boot_dict (pa_cons (pv 2) pa_nil))) (pss_cons (kNPut K P w hr.un9 (pv 3) (pe_glob (v := .ref t.e_EDGE) rfl T.m_EDGE rfl) (pe_glob rfl T.m_BORDER T.v_BORDER) rfl) (pss_cons (ps_set (i := 4) sc_paired_tiles.nd rfl (by first | exact Or.inl rfl | exact Or.inr rfl) (pe_callD T.tiles_by_face G_tiles_by_face (hr.mono (by first | decide | omega)) pass0 (pa_cons (pv 1) pa_nil))) (pss_cons (ps_set (i := 5) sc_paired_tiles.nd rfl (by first | exact Or.inl rfl | exact Or.inr rfl) (pe_lst pa_nil)) (pss_cons (ps_for PassesOwn.never rfl (kiList K (pe_ix (kIxT K) (pv 0) pe_int (fun _ _ => rfl))) (pg_name (i := 6) sc_paired_tiles.nd rfl (by first | exact Or.inl rfl | exact Or.inr rfl)) (pss_one ps_never)) (pss_one (ps_ret (pv 5)))))))), ?_⟩
  refine rq_set' (tcb1 ((gv_var (v := .ref m) (by rfl)) _ fun H1 s1 => ⟨m, rfl, s1 _ _ hm, fun p o hp nm => ?_⟩))
  have hE : NK K (upd H1 p o) (.tup [.int (-1), .int (-1)]) t.e_EDGE := NK.of (xs := [.int (-1), .int (-1)]) T.q_EDGE.sq (by unfold Reps; refine ⟨_, _, rfl, by unfold Rep; rfl, ?_⟩; unfold Reps; refine ⟨_, _, rfl, by unfold Rep; rfl, ?_⟩; unfold Reps; rfl) rfl (by decide)
  refine rs_seq ((gv_c (v := .int (-1))) _ fun H2 s2 => (gv_var (v := .ref p) (by rfl)) _ fun H3 s3 => (gv_c (v := .ref t.e_EDGE)) _ fun H4 s4 => ⟨p, rfl, _, _, _, _, nm.same (s2.trans (s3.trans s4)), (by decide), rfl, hE.tups (fun q xs h => (s2.trans (s3.trans s4)).tup h), fun o2 nm2 => ?_⟩)
  have s05 : Same H (upd H4 p o2) := (s1.trans ((Same.new hp o).trans (s2.trans (s3.trans s4)))).put (s1.free hp) o2
  generalize upd H4 p o2 = H5 at *
  refine rq_set' (tcall (ga_1 (gv_var (by rfl))) fun H6 s6 => ⟨b, y, rfl, hB.same (s05.trans s6), fun v H7 s7 => ?_⟩)
  have s07 := s05.trans (s6.trans s7)
  refine rq_set' ⟨(by show 0 ≤ sizeLine; decide), fun F hF => ?_⟩
  have s08 := s07.trans (Same.new hF (.lst []))
  obtain ⟨TA, hTA, hLA⟩ := hA
  refine rq_forNil (K := K) (gv_ixT (K := K) (gv_var (by rfl)) (fun _ _ => gv_c) (s08.tup hTA) (atI_nat (j := 1) rfl)) (SqL.of (s08 _ _ hLA)) fun H9 s9 => ?_
  exact rs_ret (gv_var (by rfl)) fun HA sA => k F HA (s07.free hF) (s08.trans (s9.trans sA)) ((s9.trans sA) _ _ upd_same)
theorem sc_meeting : FnScope ["one", "other", "marks", "letters"] ["one", "other"] (defScope s_meeting) := ⟨rfl, rfl, rfl, by decide +kernel, rfl, by decide +kernel, by decide +kernel⟩
theorem ok_meeting (T : Txt K mg t) : FnOk P w K mg base (CX1 P w) 5 t.f_meeting t.d_meeting ["one", "other"] (sp_join K t.c_BadSystem limM) := by
  have G_look_both : FnOk P w K mg base (CX1 P w) 4 t.f_look_both t.d_look_both ["one", "other"] (sp_two K t.c_BadSystem) := ok_look_both T
  have G_look_together : FnOk P w K mg base (CX1 P w) 1 t.f_look_together t.d_look_together ["marks"] (sp_tog t.c_BadSystem) := ok_look_together T
  have G_pairs_of_marks : FnOk P w K mg base CX0 1 t.f_pairs_of_marks t.d_pairs_of_marks ["one", "other"] sp_pairs := ok_pairs_of_marks T
  have G_paired_tiles : FnOk P w K mg base CX0 2 t.f_paired_tiles t.d_paired_tiles ["one", "other", "marks"] (sp_paired K) := ok_paired_tiles T
  refine T.meeting.fn.okX sc_meeting (fun vs H Q E h => ?_) (fun cdv A outer s H vs Q E hr h => ?_)
  · obtain ⟨a, b, x, y, ts, us, rfl, _⟩ := h
    rfl
  obtain ⟨a, b, x, y, ts, us, rfl, hA, hM, hB, hN, k1, k2⟩ := h
  have hx := hM.short
  have hy := hN.short
  obtain ⟨TA, hTA, _⟩ := id hA
  obtain ⟨TB, hTB, _⟩ := id hB
  refine ⟨_, (pss_cons (ps_expr (pe_callD T.look_both G_look_both (hr.mono (by first | decide | omega)) (passes1 raiseX rfl rfl rfl (fun _ _ _ z => z)) (pa_cons (pv 0) (pa_cons (pv 1) pa_nil)))) (pss_cons (ps_expr (pe_callD T.look_together G_look_together (hr.mono (by first | decide | omega)) (passes1 raiseX rfl rfl rfl (fun _ _ _ z => z)) (pa_cons (pe_op op_mul (pe_callB (kLen K) (by rfl) T.n_len boot_len (pa_cons (pe_ix (kIxT K) (pv 0) pe_int (fun _ _ => rfl)) pa_nil)) (pe_callB (kLen K) (by rfl) T.n_len boot_len (pa_cons (pe_ix (kIxT K) (pv 1) pe_int (fun _ _ => rfl)) pa_nil))) pa_nil))) (pss_cons (ps_set (i := 2) sc_meeting.nd rfl (by first | exact Or.inl rfl | exact Or.inr rfl) (pe_callD T.pairs_of_marks G_pairs_of_marks (hr.mono (by first | decide | omega)) pass0 (pa_cons (pe_ix (kIxT K) (pv 0) pe_int (fun _ _ => rfl)) (pa_cons (pe_ix (kIxT K) (pv 1) pe_int (fun _ _ => rfl)) pa_nil)))) (pss_cons (ps_set (i := 3) sc_meeting.nd rfl (by first | exact Or.inl rfl | exact Or.inr rfl) (kBm K PySem.F.plainAttrs_str PySem.F.slot_str_join PySem.F.type_str_join (kJoin K) pe_str (pa_cons (pe_comp (N' := ["pair", "one"]) (ix := [none, some 0]) (compScope_of (by kernel_rfl)) rfl (kiEmp (pv 2)) (fun _ _ _ _ => (pg_name (i := 0) (show List.Nodup (["pair", "one"] : List Str) from by decide +kernel) rfl (by first | exact Or.inl rfl | exact Or.inr rfl))) (fun _ _ _ _ => pf_nil) (fun _ _ _ _ => pe_never)) pa_nil))) (pss_one (ps_ret (pe_tup (pa_cons (pv 3) (pa_cons (pe_callB (kSortedL K) (by rfl) T.n_sorted boot_sorted (pa_cons (pe_callD T.paired_tiles G_paired_tiles (hr.mono (by first | decide | omega)) pass0 (pa_cons (pv 0) (pa_cons (pv 1) (pa_cons (pv 2) pa_nil)))) pa_nil)) pa_nil))))))))), ?_⟩
  refine rq_drop' (tcall (ga_cons (gv_var (by rfl)) fun _ _ => ga_1 (gv_var (by rfl))) fun H1 s1 => ⟨a, b, x, y, ts, us, rfl, hA.same s1, hM, hB.same s1, hN, fun c1 c2 H2 s2 => ?_, fun c H2 s2 => k2 (okJ_two c) H2 (s1.trans s2)⟩)
  have s02 := s1.trans s2
  have cst : (x.length : Int) * (y.length : Int) = ((x.length * y.length : Nat) : Int) := by push_cast; rfl
  refine rq_drop' (tcall (ga_1 (gv_iic (gv_lenS (K := K) (ga_1 (gv_ixT (K := K) (gv_var (by rfl)) (fun _ _ => gv_c) (s02.tup hTA) (atI_nat (j := 0) rfl))) (small (by omega))) (fun H3 s3 => gv_lenS (K := K) (ga_1 (gv_ixT (K := K) (gv_var (by rfl)) (fun _ _ => gv_c) ((s02.trans s3).tup hTB) (atI_nat (j := 0) rfl))) (small (by omega))) (.inl ⟨by omega, by omega⟩))) fun H3 s3 => ⟨_, rfl, fun c3 H4 s4 => ?_, fun c3 H4 s4 => k2 (okJ_lim (decide_eq_false (by omega))) H4 (s02.trans (s3.trans s4))⟩)
  have s04 := s02.trans (s3.trans s4)
  obtain ⟨hEA, hEB, hab, k⟩ := k1 (okJ_ok c1 c2 (decide_eq_true (by omega)))
  refine rq_set' (tcall (ga_cons (gv_ixT (K := K) (gv_var (by rfl)) (fun _ _ => gv_c) (s04.tup hTA) (atI_nat (j := 0) rfl)) fun H5 s5 => ga_1 (gv_ixT (K := K) (gv_var (by rfl)) (fun _ _ => gv_c) ((s04.trans s5).tup hTB) (atI_nat (j := 0) rfl))) fun H5 s5 => ⟨x, y, rfl, hab, fun m H6 hm s6 hm6 => ?_⟩)
  have s06 := s04.trans (s5.trans s6)
  refine rq_set' ⟨rfl, tcompEmp (gv_var (by rfl)) hm6 fun D H7 hD s7 hl7 => ⟨"", D, [], rfl, rfl, SqL.of hl7, by decide, ?_⟩⟩
  have s07 := s06.trans s7
  refine rs_ret' (t_pair (x := Txt.join "" []) (gv_var (by rfl)) (fun H8 s8 => gn_srtN (K := K) fun R r => tcall (ga_cons (gv_var (by rfl)) fun _ _ => ga_cons (gv_var (by rfl)) fun _ _ => ga_1 (gv_var (by rfl))) fun H9 s9 => ⟨a, b, m, x, y, rfl, hEA.same (s07.trans (s8.trans s9)), hEB.same (s07.trans (s8.trans s9)), (s7.trans (s8.trans s9)) _ _ hm6, fun p HA hp sA hlA => r p HA (s9.free hp) (s9.trans sA) hlA⟩) fun v H8 s8 => k v H8 (s07.trans s8))
end
end K41

set_option maxHeartbeats 1000000
namespace K41
open PySem PySem.Spec PyProof.Rows L2
section
variable {P : Program} {w : World} {K : PySem.W.Frag} {mg : Str → Option Value} {base : Heap} {t : Ad}
section
variable {tt : TT} {ts us : TS} {D : Ends} {σ : L2.St} {H : Hp} {ta tb : TE} {R : VK}
theorem rs_ifT (h : Gt tt σ H true) (k : ∀ H', Same H H' → ts D σ H') : tIfS tt ts us D σ H := rs_if2 h (fun _ => k) fun z => absurd z (by decide)
theorem rs_ifF (h : Gt tt σ H false) (k : ∀ H', Same H H' → us D σ H') : tIfS tt ts us D σ H := rs_if2 h (fun z => absurd z (by decide)) fun _ => k
theorem rq_ifT (h : Gt tt σ H true) (k : ∀ H', Same H H' → ts { D with nx := us D } σ H') : tSeq (tIfS tt ts tNext) us D σ H := rq_if h (fun _ => k) fun z => absurd z (by decide)
theorem rq_ifF (h : Gt tt σ H false) (k : ∀ H', Same H H' → us D σ H') : tSeq (tIfS tt ts tNext) us D σ H := rq_if h (fun z => absurd z (by decide)) fun _ => k
theorem rq_try {QC : Value} {n i : Nat} {tb : XK → TS} {th : TS} {Px : XK} {Rx : L2.St → Hp → Prop} (h1 : ∀ cls d H', Px cls d H' → xTry K QC n i th { D with nx := us D } cls d H') (h2 : ∀ σ H', Rx σ H' → us D σ H')
    (h : ∀ (E : XK) (nx : L2.St → Hp → Prop), (∀ cls d H', Px cls d H' → E cls d H') → (∀ σ H', Rx σ H' → nx σ H') → tb E { D with nx := nx } σ H) : tSeq (tTry K QC n i tb th) us D σ H := h _ _ h1 h2
end
def sp_refusal (K : PySem.W.Frag) (t : Ad) : Sp := fun vs H Q _ => ∃ (v : V) (wd : Str), vs = [v] ∧ ((v = .non ∧ wd = "ok") ∨ ∃ a, v = .ref a ∧ H a = some (excO a (.ref t.c_BadSystem)) ∧ wd = "system") ∧ ∀ H', Same H H' → Q (.str wd) H'
theorem sc__law_refusal : FnScope ["_law_kept", "_law_kinds"] ["_law_kept"] (defScope s__law_refusal) := ⟨rfl, rfl, rfl, by decide +kernel, rfl, by decide +kernel, by decide +kernel⟩
theorem ok__law_refusal (T : Txt K mg t) : FnOk P w K mg base CX0 1 t.f__law_refusal t.d__law_refusal ["_law_kept"] (sp_refusal K t) := by
  refine T._law_refusal.fn.ok sc__law_refusal (fun vs H Q E h => ?_) (fun cdv A outer s H vs Q E hr h => ?_)
  · obtain ⟨v, wd, rfl, _⟩ := h
    rfl
  obtain ⟨v, wd, rfl, hcw, kk⟩ := h
  refine ⟨_, (pss_cons (ps_if (pt_cmp (pc_isN (pv 0))) (pss_one (ps_ret pe_str)) pss_nil) (pss_cons (ps_set (i := 1) sc__law_refusal.nd rfl (by first | exact Or.inl rfl | exact Or.inr rfl) (pe_lst (pa_cons (pe_callB (kIsinstance K) (by rfl) T.n_isinstance boot_isinstance (pa_cons (pv 0) (pa_cons (pe_glob (v := .ref t.c_BadPicture) rfl T.m_BadPicture rfl) pa_nil))) (pa_cons (pe_callB (kIsinstance K) (by rfl) T.n_isinstance boot_isinstance (pa_cons (pv 0) (pa_cons (pe_glob (v := .ref t.c_BadSize) rfl T.m_BadSize rfl) pa_nil))) (pa_cons (pe_callB (kIsinstance K) (by rfl) T.n_isinstance boot_isinstance (pa_cons (pv 0) (pa_cons (pe_glob (v := .ref t.c_BadSystem) rfl T.m_BadSystem rfl) pa_nil))) pa_nil))))) (pss_cons (ps_set (i := 1) sc__law_refusal.nd rfl (by first | exact Or.inl rfl | exact Or.inr rfl) (pe_op op_cat (pv 1) (pe_lst (pa_cons (pe_callB (kIsinstance K) (by rfl) T.n_isinstance boot_isinstance (pa_cons (pv 0) (pa_cons (pe_glob (v := .ref t.c_BadText) rfl T.m_BadText rfl) pa_nil))) (pa_cons (pe_callB (kIsinstance K) (by rfl) T.n_isinstance boot_isinstance (pa_cons (pv 0) (pa_cons (pe_glob (v := .ref t.c_Unlike) rfl T.m_Unlike rfl) pa_nil))) pa_nil))))) (pss_cons (ps_if (PW.pt (pw_or (pt_cmpR op_ne (kBm K PySem.F.plainAttrs_list PySem.F.slot_list_count PySem.F.type_list_count (kCount K) (pv 1) (pa_cons pe_bl pa_nil)) pe_int (nomark _)) (pw_or1 (pt_not (pt_val (pe_callB (kIsinstance K) (by rfl) T.n_isinstance boot_isinstance (pa_cons (pv 0) (pa_cons (pe_bltn (v := .ty "ValueError") rfl T.n_ValueError PyProof.Rows.Boot.ValueError rfl) pa_nil)))))))) (pss_one (ps_ret pe_str)) pss_nil) (pss_one (ps_ret (pe_ix (kIxL K) (pe_lst (pa_cons pe_str (pa_cons pe_str (pa_cons pe_str (pa_cons pe_str (pa_cons pe_str pa_nil)))))) (kBm K PySem.F.plainAttrs_list PySem.F.slot_list_index PySem.F.type_list_index (kIndex K) (pv 1) (pa_cons pe_bl pa_nil)) (fun _ _ => rfl)))))))), ?_⟩
  rcases hcw with ⟨rfl, rfl⟩ | ⟨a, rfl, he, rfl⟩
  · exact rq_ifT (gt_eq (gt_tB (gv_isN (gv_var (by rfl)))) (by simp)) fun H1 s1 => rs_ret gv_c fun H2 s2 => kk H2 (s1.trans s2)
  refine rq_ifF (gt_eq (gt_tB (gv_isN (gv_var (by rfl)))) (by simp)) fun H1 s1 => ?_
  have isi : ∀ {σ : L2.St} {Hx : Hp} {tt : TA} {c : V} {b : Bool}, Same H Hx → Ga tt σ Hx [.ref a, c] → ((∃ x, c = .ref x) ∨ ∃ n, c = .ty n) → PySem.W.kitOne K (.ref t.c_BadSystem) (clsV c) = some b → Gv (tCB (fun xs H Q => ∃ x c t b, xs = [x, c] ∧ ((∃ a, c = .ref a) ∨ ∃ n, c = .ty n) ∧ TyV K H x t ∧ PySem.W.kitOne K t (clsV c) = some b ∧ Q (.bl b) H) tt) σ Hx (.bl b) :=
    fun s hg hc hk => gv_isiE hg hc (s _ _ he) T.i_BadSystem hk
  refine rq_set' (gn_to (gn_lst (xs := [.bl false, .bl false, .bl true]) (ga_cons (isi s1 (ga_cons (gv_var (by rfl)) fun _ _ => ga_1 gv_c) (.inl ⟨_, rfl⟩) T.k_BadSystem_BadPicture) fun H2 s2 => ga_cons (isi (s1.trans s2) (ga_cons (gv_var (by rfl)) fun _ _ => ga_1 gv_c) (.inl ⟨_, rfl⟩) T.k_BadSystem_BadSize) fun H3 s3 => ga_1 (isi ((s1.trans s2).trans s3) (ga_cons (gv_var (by rfl)) fun _ _ => ga_1 gv_c) (.inl ⟨_, rfl⟩) T.k_BadSystem_BadSystem)) (by show 3 ≤ sizeLine; decide)) fun l1 H2 hl1 s2 hl1' => ?_)
  have s02 := s1.trans s2
  refine rq_set' (gn_to (gn_cat (ys := [.bl false, .bl false]) (gv_var (by rfl)) hl1' (fun H3 s3 => gn_lst (ga_cons (isi (s02.trans s3) (ga_cons (gv_var (by rfl)) fun _ _ => ga_1 gv_c) (.inl ⟨_, rfl⟩) T.k_BadSystem_BadText) fun H4 s4 => ga_1 (isi ((s02.trans s3).trans s4) (ga_cons (gv_var (by rfl)) fun _ _ => ga_1 gv_c) (.inl ⟨_, rfl⟩) T.k_BadSystem_Unlike)) (by show 2 ≤ sizeLine; decide)) (by show 5 ≤ sizeLine; decide)) fun l2 H3 hl2 s3 hl2' => ?_)
  have s03 := s02.trans s3
  have hq2 : SqL K H3 l2 [V.bl false, .bl false, .bl true, .bl false, .bl false] := SqL.of hl2'
  refine rq_ifF (gt_eq (gt_or (q := false) (gt_test (gv_neI (gv_count (gv_var (by rfl)) hq2 (fun _ _ => ga_1 gv_c) (by rfl) (by rfl)) (fun _ _ => gv_c) (by rfl))) fun _ H4 s4 => gt_eq (gt_not (gt_tB (isi (s03.trans s4) (ga_cons (gv_var (by rfl)) fun _ _ => ga_1 gv_c) (.inr ⟨_, rfl⟩) T.k_BadSystem_ValueError))) rfl) (by rfl)) fun H4 s4 => ?_
  refine rs_ret (gv_ixN (K := K) (v := .str "system") (xs := [.str "picture", .str "size", .str "system", .str "text", .str "unlike"]) (gn_lst (ga_cons gv_c fun _ _ => ga_cons gv_c fun _ _ => ga_cons gv_c fun _ _ => ga_cons gv_c fun _ _ => ga_1 gv_c) (by show 5 ≤ sizeLine; decide))
    (fun H5 s5 => gv_index (j := 2) (gv_var (by rfl)) ((s4.trans s5).seq hq2) (fun _ _ => ga_1 gv_c) (by rfl) (by rfl) (by decide) (by rfl) fun m hm h => ?_) (by rfl)) fun H5 s5 => kk H5 (s03.trans (s4.trans s5))
  match m, h with
  | 0, _ => rfl
  | 1, _ => rfl
  | m + 2, h => exact absurd h (by omega)
def okN (n : Nat) (x y : Str) (ts us : List (List Int)) : Bool := if n < 3 then okJ (limS x y) x y ts us else if n = 3 then okJ (limM x y) x y ts us else sysB x ts
def wdN (n : Nat) (x y : Str) (ts us : List (List Int)) : Str := if okN n x y ts us = true then "ok" else "system"
def sp_told (K : PySem.W.Frag) : Sp := fun vs H Q _ => ∃ (n : Nat) (a b : Addr) (x y : Str) (ts us : List (List Int)), vs = [.int n, .ref a, .ref b] ∧ n < 6 ∧ SysAt K H a x ts ∧ Mild x ts ∧ SysAt K H b y us ∧ Mild y us ∧
  (okN n x y ts us = true → EmpAt K H a x ∧ (n < 4 → EmpAt K H b y ∧ AB x y)) ∧ ∀ H', Same H H' → Q (.str (wdN n x y ts us)) H'
theorem sc__law_told : FnScope ["_law_way", "_law_one", "_law_other", "_law_kept", "e"] ["_law_way", "_law_one", "_law_other"] (defScope s__law_told) := ⟨rfl, rfl, rfl, by decide +kernel, rfl, by decide +kernel, by decide +kernel⟩
theorem ok__law_told (T : Txt K mg t) : FnOk P w K mg base CX0 6 t.f__law_told t.d__law_told ["_law_way", "_law_one", "_law_other"] (sp_told K) := by
  have G_either : FnOk P w K mg base (CX1 P w) 5 t.f_either t.d_either ["one", "other"] (sp_join K t.c_BadSystem limS) := ok_either T
  have G_beside_of : FnOk P w K mg base (CX1 P w) 5 t.f_beside_of t.d_beside_of ["one", "other"] (sp_join K t.c_BadSystem limS) := ok_beside_of T
  have G_over_of : FnOk P w K mg base (CX1 P w) 5 t.f_over_of t.d_over_of ["one", "other"] (sp_join K t.c_BadSystem limS) := ok_over_of T
  have G_meeting : FnOk P w K mg base (CX1 P w) 5 t.f_meeting t.d_meeting ["one", "other"] (sp_join K t.c_BadSystem limM) := ok_meeting T
  have G_mirrored_of : FnOk P w K mg base (CX1 P w) 4 t.f_mirrored_of t.d_mirrored_of ["system"] (sp_one K t.c_BadSystem) := ok_mirrored_of T
  have G_stood_system : FnOk P w K mg base (CX1 P w) 4 t.f_stood_system t.d_stood_system ["system"] (sp_one K t.c_BadSystem) := ok_stood_system T
  have G__law_refusal : FnOk P w K mg base CX0 1 t.f__law_refusal t.d__law_refusal ["_law_kept"] (sp_refusal K t) := ok__law_refusal T
  refine T._law_told.fn.ok sc__law_told (fun vs H Q E h => ?_) (fun cdv A outer s H vs Q E hr h => ?_)
  · obtain ⟨n, a, b, x, y, ts, us, rfl, _⟩ := h
    rfl
  obtain ⟨n, a, b, x, y, ts, us, rfl, hn, hA, hM, hB, hN, hE, k⟩ := h
  refine ⟨_, (pss_cons (ps_set (i := 3) sc__law_told.nd rfl (by first | exact Or.inl rfl | exact Or.inr rfl) pe_non) (pss_cons (ps_try (i := 4) rfl rfl rfl T.m_QuiltError sc__law_told.nd rfl rfl (fun ps xe E hP => (pss_one (ps_if (pt_cmpR op_eq (pv 0) pe_int (nomark _)) (pss_one (ps_expr (pe_callD T.either G_either (hr.mono (by first | decide | omega)) hP (pa_cons (pv 1) (pa_cons (pv 2) pa_nil))))) (pss_one (ps_if (pt_cmpR op_eq (pv 0) pe_int (nomark _)) (pss_one (ps_expr (pe_callD T.beside_of G_beside_of (hr.mono (by first | decide | omega)) hP (pa_cons (pv 1) (pa_cons (pv 2) pa_nil))))) (pss_one (ps_if (pt_cmpR op_eq (pv 0) pe_int (nomark _)) (pss_one (ps_expr (pe_callD T.over_of G_over_of (hr.mono (by first | decide | omega)) hP (pa_cons (pv 1) (pa_cons (pv 2) pa_nil))))) (pss_one (ps_if (pt_cmpR op_eq (pv 0) pe_int (nomark _)) (pss_one (ps_expr (pe_callD T.meeting G_meeting (hr.mono (by first | decide | omega)) hP (pa_cons (pv 1) (pa_cons (pv 2) pa_nil))))) (pss_one (ps_if (pt_cmpR op_eq (pv 0) pe_int (nomark _)) (pss_one (ps_expr (pe_callD T.mirrored_of G_mirrored_of (hr.mono (by first | decide | omega)) hP (pa_cons (pv 1) pa_nil)))) (pss_one (ps_expr (pe_callD T.stood_system G_stood_system (hr.mono (by first | decide | omega)) hP (pa_cons (pv 1) pa_nil))))))))))))))) (fun _ => (pss_one (ps_set (i := 3) sc__law_told.nd rfl (by first | exact Or.inl rfl | exact Or.inr rfl) (pv 4))))) (pss_one (ps_ret (pe_callD T._law_refusal G__law_refusal (hr.mono (by first | decide | omega)) pass0 (pa_cons (pv 3) pa_nil)))))), ?_⟩
  refine rq_set gv_c fun H1 s1 => ?_
  refine rq_try (Px := fun cls _ H' => Same H H' ∧ okN n x y ts us = false ∧ cls = .ref t.c_BadSystem)
    (Rx := fun σ H' => Same H H' ∧ okN n x y ts us = true ∧ σ = [some (.int n), some (.ref a), some (.ref b), some .non, none]) ?_ ?_ ?_
  · rintro cls d H' ⟨s', ho, rfl⟩
    refine ⟨T.h_BadSystem_QuiltError, fun e he => ?_⟩
    refine rs_set (gv_var (by rfl)) fun H4 s4 => ?_
    have he4 : H4 e = some (excO e (.ref t.c_BadSystem)) := s4 _ _ upd_same
    refine rs_ret (v := .str "system") (gv_call (ga_1 (gv_var (by rfl))) fun H6 R' s6 k6 => ⟨.ref e, "system", rfl, .inr ⟨e, rfl, s6 _ _ he4, rfl⟩, k6⟩) fun H5 s5 => ?_
    have := k H5 ((s'.trans (Same.new he _)).trans (s4.trans s5))
    unfold wdN at this
    rw [ho] at this
    exact this
  · rintro σ H' ⟨s', ho, rfl⟩
    refine rs_ret (v := .str "ok") (gv_call (ga_1 (gv_var (by rfl))) fun H6 R' s6 k6 => ⟨.non, "ok", rfl, .inl ⟨rfl, rfl⟩, k6⟩) fun H5 s5 => ?_
    have := k H5 (s'.trans s5)
    unfold wdN at this
    rw [ho] at this
    exact this
  · intro E nx hE' hnx
    have tst : ∀ {σ : L2.St} {Hx : Hp} {m : Nat} {b : Bool}, σ[0]? = some (some (.int (n : Int))) → decide (n = m) = b → Gt (tTest (tOp rEq (tVar 0) (tC (.int (m : Int))))) σ Hx b := fun h e => gt_eq (gt_test (gv_eqI (gv_var h) (fun _ _ => gv_c) (by rfl))) (by rw [← e]; simp; omega)
    have two : ∀ {lim : Str → Str → Bool} {Hx : Hp} {Q' : VK} {E'' : XK}, okN n x y ts us = okJ (lim x y) x y ts us → n < 4 → Same H Hx → (∀ v H', Same H H' → okN n x y ts us = true → Q' v H') → (∀ H', Same H H' → okN n x y ts us = false → E'' (.ref t.c_BadSystem) none H') → sp_join K t.c_BadSystem lim [.ref a, .ref b] Hx Q' E'' := fun {lim Hx Q' E''} e h4 sx kq ke =>
      ⟨a, b, x, y, ts, us, rfl, hA.same sx, hM, hB.same sx, hN, fun c => ⟨(hE (by rw [e]; exact c)).1.same sx, ((hE (by rw [e]; exact c)).2 h4).1.same sx, ((hE (by rw [e]; exact c)).2 h4).2, fun v H' s' => kq v H' (sx.trans s') (by rw [e]; exact c)⟩, fun c H' s' => ke H' (sx.trans s') (by rw [e]; exact c)⟩
    have one : ∀ {Hx : Hp} {Q' : VK} {E'' : XK}, okN n x y ts us = sysB x ts → Same H Hx → (∀ v H', Same H H' → okN n x y ts us = true → Q' v H') → (∀ H', Same H H' → okN n x y ts us = false → E'' (.ref t.c_BadSystem) none H') → sp_one K t.c_BadSystem [.ref a] Hx Q' E'' := fun {Hx Q' E''} e sx kq ke =>
      ⟨a, x, ts, rfl, hA.same sx, hM, fun c => ⟨(hE (by rw [e]; exact c)).1.same sx, fun v H' s' => kq v H' (sx.trans s') (by rw [e]; exact c)⟩, fun c H' s' => ke H' (sx.trans s') (by rw [e]; exact c)⟩
    have fin : ∀ (v : V) H', Same H H' → okN n x y ts us = true → nx [some (.int n), some (.ref a), some (.ref b), some .non, none] H' := fun v H' s' ho => hnx _ _ ⟨s', ho, rfl⟩
    have exc : ∀ H', Same H H' → okN n x y ts us = false → E (.ref t.c_BadSystem) none H' := fun H' s' ho => hE' _ _ _ ⟨s', ho, rfl⟩
    rcases (show n = 0 ∨ n = 1 ∨ n = 2 ∨ n = 3 ∨ n = 4 ∨ n = 5 by omega) with rfl | rfl | rfl | rfl | rfl | rfl
    · exact rs_ifT (tst rfl (by decide)) fun H2 s2 => rs_drop' (tcall (ga_cons (gv_var (by rfl)) fun _ _ => ga_1 (gv_var (by rfl))) fun H3 s3 => two rfl (by decide) (s1.trans (s2.trans s3)) fin exc)
    · exact rs_ifF (tst rfl (by decide)) fun H2 s2 => rs_ifT (tst rfl (by decide)) fun H4 s4 => rs_drop' (tcall (ga_cons (gv_var (by rfl)) fun _ _ => ga_1 (gv_var (by rfl))) fun H3 s3 => two rfl (by decide) (s1.trans (s2.trans (s4.trans s3))) fin exc)
    · exact rs_ifF (tst rfl (by decide)) fun H2 s2 => rs_ifF (tst rfl (by decide)) fun H4 s4 => rs_ifT (tst rfl (by decide)) fun H5 s5 => rs_drop' (tcall (ga_cons (gv_var (by rfl)) fun _ _ => ga_1 (gv_var (by rfl))) fun H3 s3 => two rfl (by decide) (s1.trans (s2.trans (s4.trans (s5.trans s3)))) fin exc)
    · exact rs_ifF (tst rfl (by decide)) fun H2 s2 => rs_ifF (tst rfl (by decide)) fun H4 s4 => rs_ifF (tst rfl (by decide)) fun H5 s5 => rs_ifT (tst rfl (by decide)) fun H6 s6 => rs_drop' (tcall (ga_cons (gv_var (by rfl)) fun _ _ => ga_1 (gv_var (by rfl))) fun H3 s3 => two rfl (by decide) (s1.trans (s2.trans (s4.trans (s5.trans (s6.trans s3))))) fin exc)
    · exact rs_ifF (tst rfl (by decide)) fun H2 s2 => rs_ifF (tst rfl (by decide)) fun H4 s4 => rs_ifF (tst rfl (by decide)) fun H5 s5 => rs_ifF (tst rfl (by decide)) fun H6 s6 => rs_ifT (tst rfl (by decide)) fun H7 s7 => rs_drop' (tcall (ga_1 (gv_var (by rfl))) fun H3 s3 => one rfl (s1.trans (s2.trans (s4.trans (s5.trans (s6.trans (s7.trans s3)))))) fin exc)
    · exact rs_ifF (tst rfl (by decide)) fun H2 s2 => rs_ifF (tst rfl (by decide)) fun H4 s4 => rs_ifF (tst rfl (by decide)) fun H5 s5 => rs_ifF (tst rfl (by decide)) fun H6 s6 => rs_ifF (tst rfl (by decide)) fun H7 s7 => rs_drop' (tcall (ga_1 (gv_var (by rfl))) fun H3 s3 => one rfl (s1.trans (s2.trans (s4.trans (s5.trans (s6.trans (s7.trans s3)))))) fin exc)
end
end K41

namespace L2
open PySem PySem.Spec PyProof.Rows
structure PEb (X : Cx) (e : Expr) (t : TE) : Prop where
  get : PE X e t
structure PAb (X : Cx) (es : List Expr) (t : TA) : Prop where
  get : PA X es t
structure PSb (X : Cx) (st : Stmt) (t : TS) : Prop where
  get : PS X st t
structure PSsb (X : Cx) (st : List Stmt) (t : TS) : Prop where
  get : PSs X st t
section
variable {X : Cx} {e : Expr} {es : List Expr} {te : TE} {t : TA} {pos : Pos}
theorem pb_nil : PAb X [] tNil := ⟨pa_nil⟩
theorem pb_cons (ha : PEb X e te) (hr : PAb X es t) (hs : starEach (e :: es) X.env = (false, eval e X.env) :: starEach es X.env := by rfl) : PAb X (e :: es) (tCons te t) := ⟨pa_cons ha.get hr.get hs⟩
theorem pb_tup {x1} (h : PAb X es t) : PEb X (.Tuple es x1 pos) (tTup t) := ⟨pe_tup h.get⟩
theorem pb_lst (h : PAb X es t) : PEb X (.List es pos) (tLst t) := ⟨pe_lst h.get⟩
theorem pb_ix {a b : Expr} {ta tb : TE} {r : R2} (hr : IxR X r) (ha : PEb X a ta) (hb : PEb X b tb) (hs : PlainIx b) : PEb X (.Subscript a b pos) (tOp r ta tb) := ⟨pe_ix hr ha.get hb.get hs⟩
theorem psb_set {i : Nat} {x : Str} {pos' : Pos} (hN : X.N.Nodup) (hi : X.N[i]? = some x) (hx : Loc X.env.scope x) (he : PEb X e te) (hs : swapsWith e (some (.Name x pos')) pos.line X.env = pure false := by rfl) (hf : X.fn x = true ∨ X.env.scope.names.lookup x = some .local := by first | exact .inl rfl | exact .inr rfl | assumption) :
    PSb X (.Assign [.Name x pos'] e pos) (tAsg te (gName i)) := ⟨ps_set hN hi hx he.get hs hf⟩
theorem pssb_one {st : Stmt} {t : TS} (h : PSb X st t) : PSsb X [st] t := ⟨pss_one h.get⟩
theorem pssb_cons {st : Stmt} {rest : List Stmt} {t u : TS} (h : PSb X st t) (hr : PSsb X rest u) : PSsb X (st :: rest) (tSeq t u) := ⟨pss_cons h.get hr.get⟩
end
end L2

set_option maxHeartbeats 2000000
namespace K41
open PySem PySem.Spec PyProof.Rows L2
section
variable {P : Program} {w : World} {K : PySem.W.Frag} {mg : Str → Option Value} {base : Heap} {t : Ad}
def Gp (te : TE) (σ : L2.St) (H : Hp) (P : V → Hp → Prop) : Prop := ∀ R : VK, (∀ v H', Same H H' → P v H' → R v H') → te σ H R
def GaP (tt : TA) (σ : L2.St) (H : Hp) (P : V → Hp → Prop) (n : Nat) : Prop := ∀ R : List V → Hp → Prop, (∀ vs H', Same H H' → vs.length = n → (∀ v ∈ vs, P v H') → R vs H') → tt σ H R
def GlP (te : TE) (σ : L2.St) (H : Hp) (P : V → Hp → Prop) (n : Nat) : Prop := ∀ R : VK, (∀ p H' vs, H p = none → Same H H' → H' p = some (.lst vs) → vs.length = n → (∀ v ∈ vs, P v H') → R (.ref p) H') → te σ H R
def Stay (P : V → Hp → Prop) : Prop := ∀ v H H', Same H H' → P v H → P v H'
section
variable {te ta tb : TE} {tt : TA} {σ : L2.St} {H : Hp} {Pv : V → Hp → Prop} {n m : Nat}
theorem gp_gv {v : V} (h : Gv te σ H v) (g : ∀ H', Same H H' → Pv v H') : Gp te σ H Pv := fun R r => h _ fun H' s => r v H' s (g H' s)
theorem gap_nil : GaP tNil σ H Pv 0 := fun R r => r [] H (Same.refl _) rfl fun v hv => absurd hv (by simp)
theorem gap_cons (st : Stay Pv) (h : Gp te σ H Pv) (g : ∀ H', Same H H' → GaP tt σ H' Pv n) : GaP (tCons te tt) σ H Pv (n + 1) := fun R r => h _ fun v H1 s1 pv => g H1 s1 _ fun vs H2 s2 hl pvs => r (v :: vs) H2 (s1.trans s2) (by simp [hl]) fun u hu => by
  rcases List.mem_cons.mp hu with e | e
  · rw [e]; exact st _ _ _ s2 pv
  · exact pvs u e
theorem glp_lst (st : Stay Pv) (h : GaP tt σ H Pv n) (hz : n ≤ sizeLine) : GlP (tLst tt) σ H Pv n := fun R r => h _ fun vs H1 s1 hl pvs => ⟨by rw [hl]; exact hz, fun p hp => r p _ vs (s1.free hp) (s1.trans (Same.new hp _)) upd_same hl fun v hv => st _ _ _ (Same.new hp _) (pvs v hv)⟩
theorem gp_ix {i : Int} (st : Stay Pv) (h : GlP ta σ H Pv n) (g : ∀ H', Same H H' → Gv tb σ H' (.int i)) (h0 : 0 ≤ i) (h1 : i < n) : Gp (tOp (rIxL K) ta tb) σ H Pv :=
  fun R r => h _ fun p H1 vs hp s1 hpl hn pvs => g H1 s1 _ fun H2 s2 => by
    obtain ⟨j, rfl⟩ := Int.eq_ofNat_of_zero_le h0
    have hj : j < vs.length := by omega
    exact ⟨p, vs, _, vs[j], rfl, rfl, SqL.of (s2 _ _ hpl), atI_nat (List.getElem?_eq_getElem hj), r _ H2 (s1.trans s2) (st _ _ _ s2 (pvs _ (List.getElem_mem hj)))⟩
/-- a whole number up to 17 -/
def Pn (v : V) (_ : Hp) : Prop := ∃ m : Nat, v = .int m ∧ m ≤ 17
theorem pn_stay : Stay Pn := fun v H H' s h => h
theorem gp_int {i : Int} (h : Gv te σ H (.int i)) (h0 : 0 ≤ i) (h1 : i ≤ 17) : Gp te σ H Pn := gp_gv h fun _ _ => ⟨i.toNat, by rw [Int.toNat_of_nonneg h0], by omega⟩
theorem gv_max2 {i j : Int} (h : Ga tt σ H [.int i, .int j]) : Gv (tCB (fun xs H Q => ∃ i j, xs = [.int i, .int j] ∧ Q (.int (if j > i then j else i)) H) tt) σ H (.int (if j > i then j else i)) := fun R r => h _ fun H' s => ⟨i, j, rfl, r H' s⟩
theorem gv_min2 {i j : Int} (h : Ga tt σ H [.int i, .int j]) : Gv (tCB (fun xs H Q => ∃ i j, xs = [.int i, .int j] ∧ Q (.int (if j < i then j else i)) H) tt) σ H (.int (if j < i then j else i)) := fun R r => h _ fun H' s => ⟨i, j, rfl, r H' s⟩
theorem gn_rep {xs : List V} {k : Nat} (ha : Gn ta σ H xs) (hb : ∀ H', Same H H' → Gv tb σ H' (.int k)) (hk : k ≤ 1000) (hz : xs.length * k ≤ 1000) : Gn (tOp rRep ta tb) σ H (List.replicate k xs).flatten := fun R r =>
  ha _ fun a H1 ha1 s1 hl1 => hb H1 s1 _ fun H2 s2 => ⟨a, k, xs, rfl, rfl, s2 _ _ hl1, by omega, by omega, by rw [Int.toNat_natCast]; exact small hz, fun q hq => by
    have := r q _ ((s1.trans s2).free hq) ((s1.trans s2).trans (Same.new hq _)) upd_same
    rw [Int.toNat_natCast]
    exact this⟩
theorem reps_strs {H : Hp} : ∀ ws : List Str, Reps K H (ws.map Dt.str) (ws.map V.str)
  | [] => by show Reps K H [] []; unfold Reps; rfl
  | x :: ws => by
    show Reps K H (Dt.str x :: ws.map Dt.str) (V.str x :: ws.map V.str)
    unfold Reps
    exact ⟨_, _, rfl, by unfold Rep; rfl, reps_strs ws⟩
theorem rep_strs {a : Addr} {ws : List Str} (h : H a = some (.lst (ws.map V.str))) : Rep K H (.lst (ws.map Dt.str)) (.ref a) := by
  unfold Rep
  exact ⟨a, _, rfl, SqL.of h, reps_strs ws⟩
theorem dep_strs : ∀ ws : List Str, Dt.deps (ws.map Dt.str) = 0
  | [] => rfl
  | x :: ws => by
    show max 0 (Dt.deps (ws.map Dt.str)) = 0
    rw [dep_strs ws]; rfl
theorem gv_eqW {ws : List Str} (h : Gn ta σ H (ws.map V.str)) (g : ∀ H', Same H H' → Gn tb σ H' (ws.map V.str)) : Gv (tOp (fun x y H Q => ∃ d : Dt, d.dep ≤ 60 ∧ Rep K H d x ∧ Rep K H d y ∧ Q (.bl true) H) ta tb) σ H (.bl true) :=
  fun R r => h _ fun a H1 ha s1 hl1 => g H1 s1 _ fun b H2 hb s2 hl2 => ⟨_, (by show Dt.deps (ws.map Dt.str) + 1 ≤ 60; rw [dep_strs]; decide), rep_strs (s2 _ _ hl1), rep_strs hl2, r H2 (s1.trans s2)⟩
theorem gv_neW {ws : List Str} (h : Gn ta σ H (ws.map V.str)) (g : ∀ H', Same H H' → Gn tb σ H' (ws.map V.str)) : Gv (tOp (fun x y H Q => (∃ d : Dt, d.dep ≤ 60 ∧ Rep K H d x ∧ Rep K H d y ∧ Q (.bl false) H) ∨ ∃ a b xs, x = .ref a ∧ y = .ref b ∧ SqL K H a xs ∧ SqL K H b [] ∧ Q (.bl (!xs.isEmpty)) H) ta tb) σ H (.bl false) :=
  fun R r => h _ fun a H1 ha s1 hl1 => g H1 s1 _ fun b H2 hb s2 hl2 => .inl ⟨_, (by show Dt.deps (ws.map Dt.str) + 1 ≤ 60; rw [dep_strs]; decide), rep_strs (s2 _ _ hl1), rep_strs hl2, r H2 (s1.trans s2)⟩
/-- (letters, []) -/
theorem gp_emp {x : Str} (h : Gv ta σ H (.str x)) : Gp (tTup (tCons ta (tCons (tLst tNil) tNil))) σ H (fun v H' => ∃ a, v = .ref a ∧ EmpAt K H' a x) :=
  fun R r => h _ fun H1 s1 => ⟨(by show 0 ≤ sizeLine; decide), fun p hp => ⟨(by show 2 ≤ sizeLine; decide), fun q hq => r _ _ (s1.trans ((Same.new hp _).trans (Same.new hq _))) ⟨q, rfl, p, SqT.of upd_same, (Same.new hq _) _ _ upd_same⟩⟩⟩
def Pb (K : PySem.W.Frag) (v : V) (H : Hp) : Prop := ∃ b x ts, v = .ref b ∧ SysAt K H b x ts ∧ Mild x ts ∧ sysB x ts = false
theorem pb_stay : Stay (Pb K) := fun v H H' s h => by
  obtain ⟨b, x, ts, e, q, z⟩ := h
  exact ⟨b, x, ts, e, q.same s, z⟩
theorem EmpAt.sys {a : Addr} {x : Str} (h : EmpAt K H a x) : SysAt K H a x [] := by
  obtain ⟨T, h1, h2⟩ := h
  refine ⟨T, h1, ?_⟩
  unfold Rep
  exact ⟨T, [], rfl, SqL.of h2, by show Reps K H [] []; unfold Reps; rfl⟩
theorem mild0 {x : Str} (h : x.length ≤ 60) : Mild x [] := ⟨h, by decide, fun t ht => absurd ht (by simp)⟩
theorem gp_bad0 {x : Str} (h : Gv ta σ H (.str x)) (hx : x.length ≤ 60) (hb : sysB x [] = false) : Gp (tTup (tCons ta (tCons (tLst tNil) tNil))) σ H (Pb K) :=
  fun R r => gp_emp (K := K) h _ fun v H' s ⟨a, e, hE⟩ => r v H' s ⟨a, x, [], e, hE.sys, mild0 hx, hb⟩
theorem gp_bad1 {x : Str} {tl : List Int} (h : Gv ta σ H (.str x)) (g : ∀ H', Same H H' → Ga tt σ H' (tl.map V.int)) (hx : x.length ≤ 60) (hl : tl.length ≤ 30) (hb : sysB x [tl] = false) : Gp (tTup (tCons ta (tCons (tLst (tCons (tTup tt) tNil)) tNil))) σ H (Pb K) :=
  fun R r => h _ fun H1 s1 => g H1 s1 _ fun H2 s2 => ⟨by rw [List.length_map]; exact small (by omega), fun c hc => ⟨(by show 1 ≤ sizeLine; decide), fun p hp => ⟨(by show 2 ≤ sizeLine; decide), fun q hq => r _ _ (s1.trans (s2.trans ((Same.new hc _).trans ((Same.new hp _).trans (Same.new hq _))))) ⟨q, x, [tl], rfl, ⟨p, SqT.of upd_same, by
    unfold Rep
    refine ⟨p, _, rfl, SqL.of ((Same.new hq _) _ _ upd_same), ?_⟩
    show Reps K _ [tupI tl] _
    unfold Reps
    exact ⟨_, _, rfl, rep_tupI.mpr ⟨c, rfl, ((Same.new hp _).trans (Same.new hq _)).tup (SqT.of upd_same)⟩, by unfold Reps; rfl⟩⟩, ⟨hx, by show 1 ≤ 900; decide, fun t ht => by rw [List.mem_singleton.mp ht]; exact hl⟩, hb⟩⟩⟩⟩
end
theorem ok_rep {c n : Nat} (hc : isL c = true) (hn : n ≤ 16) : sysB (repS ⟨#[c]⟩ n) [] = true := by
  have e : lettersOk (repS ⟨#[c]⟩ n) = true := by
    unfold lettersOk
    rw [repS_one, List.all_eq_true]
    intro d hd
    rw [(List.mem_replicate.mp hd).2]
    exact hc
  unfold sysB
  rw [repS_len, decide_eq_true hn, e]
  rfl
def sp_law (K : PySem.W.Frag) : Sp := fun vs H Q _ => ∃ (a : Addr) (ns : List Int), vs = [.ref a] ∧ SqL K H a (ns.map V.int) ∧ ns.length ≤ 63 ∧ ∀ H', Q (.bl true) H'
theorem gv_mix {E : XK} {σ : L2.St} {H Hx : Hp} {tt : TA} {a : Addr} {ns : List Int} {k : Int} (hS : SqL K H a (ns.map V.int)) (hl : ns.length ≤ 63) (sx : Same H Hx) (hg : Ga tt σ Hx [.ref a, .int k]) : Gv (tCall (sp_mix K) [] E tt) σ Hx (.int (mix ns k)) :=
  gv_call hg fun H' R s kk => ⟨a, ns, _, rfl, (sx.trans s).seq hS, hl, kk⟩
theorem sc_law : FnScope ["_law_script", "_law_many", "_law_more", "_law_one", "_law_other", "_law_bad", "_law_together", "_law_times"] ["_law_script"] (defScope s_law) := ⟨rfl, rfl, rfl, by decide +kernel, rfl, by decide +kernel, by decide +kernel⟩
theorem ok_law (T : Txt K mg t) : FnOk P w K mg base CX0 7 t.f_law t.d_law ["_law_script"] (sp_law K) := by
  have G__law_mix : FnOk P w K mg base CX0 2 t.f__law_mix t.d__law_mix ["_law_script", "_law_k"] (sp_mix K) := ok__law_mix T
  have G__law_told : FnOk P w K mg base CX0 6 t.f__law_told t.d__law_told ["_law_way", "_law_one", "_law_other"] (sp_told K) := ok__law_told T
  refine T.law.fn.ok sc_law (fun vs H Q E h => ?_) (fun cdv A outer s H vs Q E hr h => ?_)
  · obtain ⟨a, ns, rfl, _⟩ := h
    rfl
  obtain ⟨a, ns, rfl, hS, hl, kk⟩ := h
  refine ⟨_, (PSsb.get (pssb_cons (PSb.mk (ps_set (i := 1) sc_law.nd rfl (by first | exact Or.inl rfl | exact Or.inr rfl) (pe_op op_mod (pe_callD T._law_mix G__law_mix (hr.mono (by first | decide | omega)) pass0 (pa_cons (pv 0) (pa_cons pe_int pa_nil))) pe_int))) (pssb_cons (psb_set (i := 2) sc_law.nd rfl (by first | exact Or.inl rfl | exact Or.inr rfl) (pb_ix (kIxL K) (pb_lst (pb_cons (PEb.mk (pe_op op_sub pe_int (pv 1))) (pb_cons (PEb.mk (pe_op op_sub pe_int (pv 1))) (pb_cons (PEb.mk pe_int) (pb_cons (PEb.mk (pe_op op_fdiv pe_int (pe_callB kMax2 (by rfl) T.n_max boot_max (pa_cons pe_int (pa_cons (pv 1) pa_nil))))) (pb_cons (PEb.mk (pe_op op_add pe_int (pe_op op_fdiv pe_int (pe_callB kMax2 (by rfl) T.n_max boot_max (pa_cons pe_int (pa_cons (pv 1) pa_nil)))))) pb_nil)))))) (PEb.mk (pe_op op_mod (pe_callD T._law_mix G__law_mix (hr.mono (by first | decide | omega)) pass0 (pa_cons (pv 0) (pa_cons pe_int pa_nil))) pe_int)) (fun _ _ => rfl))) (pssb_cons (PSb.mk (ps_set (i := 3) sc_law.nd rfl (by first | exact Or.inl rfl | exact Or.inr rfl) (pe_tup (pa_cons (pe_op op_mulZ pe_str (pv 1)) (pa_cons (pe_lst pa_nil) pa_nil))))) (pssb_cons (PSb.mk (ps_set (i := 4) sc_law.nd rfl (by first | exact Or.inl rfl | exact Or.inr rfl) (pe_tup (pa_cons (pe_op op_mulZ pe_str (pe_callB kMin2 (by rfl) T.n_min boot_min (pa_cons pe_int (pa_cons (pv 2) pa_nil)))) (pa_cons (pe_lst pa_nil) pa_nil))))) (pssb_cons (psb_set (i := 5) sc_law.nd rfl (by first | exact Or.inl rfl | exact Or.inr rfl) (pb_ix (kIxL K) (pb_lst (pb_cons (pb_tup (pb_cons (PEb.mk pe_str) (pb_cons (pb_lst pb_nil) pb_nil))) (pb_cons (pb_tup (pb_cons (PEb.mk pe_str) (pb_cons (pb_lst (pb_cons (pb_tup (pb_cons (PEb.mk pe_int) (pb_cons (PEb.mk pe_int) (pb_cons (PEb.mk pe_int) pb_nil)))) pb_nil)) pb_nil))) (pb_cons (pb_tup (pb_cons (PEb.mk (pe_op op_mulZ pe_str pe_int)) (pb_cons (pb_lst pb_nil) pb_nil))) (pb_cons (pb_tup (pb_cons (PEb.mk pe_str) (pb_cons (pb_lst (pb_cons (pb_tup (pb_cons (PEb.mk pe_int) (pb_cons (PEb.mk pe_int) (pb_cons (PEb.mk pe_int) (pb_cons (PEb.mk pe_int) pb_nil))))) pb_nil)) pb_nil))) pb_nil))))) (PEb.mk (pe_op op_mod (pe_callD T._law_mix G__law_mix (hr.mono (by first | decide | omega)) pass0 (pa_cons (pv 0) (pa_cons pe_int pa_nil))) pe_int)) (fun _ _ => rfl))) (pssb_cons (PSb.mk (ps_if (pt_cmpR (kNeD K hr.units) (pe_comp (N' := ["_law_way", "_law_bad", "_law_other"]) (ix := [none, some 5, some 4]) (compScope_of (by kernel_rfl)) rfl (pi_range1 rfl T.n_range (pa_cons pe_int pa_nil)) (fun _ _ _ _ => (pg_name (i := 0) (show List.Nodup (["_law_way", "_law_bad", "_law_other"] : List Str) from by decide +kernel) rfl (by first | exact Or.inl rfl | exact Or.inr rfl))) (fun _ _ _ _ => pf_nil) (fun _ _ _ _ => (pe_callD T._law_told G__law_told (hr.mono (by first | decide | omega)) pass0 (pa_cons (pv 0) (pa_cons (pv 1) (pa_cons (pv 2) pa_nil)))))) (pe_op op_rep (pe_lst (pa_cons pe_str pa_nil)) pe_int) (nomark _)) (pss_one (ps_ret pe_bl)) pss_nil)) (pssb_cons (PSb.mk (ps_if (pt_cmpR (kNeD K hr.units) (pe_comp (N' := ["_law_way", "_law_one", "_law_bad"]) (ix := [none, some 3, some 5]) (compScope_of (by kernel_rfl)) rfl (pi_range1 rfl T.n_range (pa_cons pe_int pa_nil)) (fun _ _ _ _ => (pg_name (i := 0) (show List.Nodup (["_law_way", "_law_one", "_law_bad"] : List Str) from by decide +kernel) rfl (by first | exact Or.inl rfl | exact Or.inr rfl))) (fun _ _ _ _ => pf_nil) (fun _ _ _ _ => (pe_callD T._law_told G__law_told (hr.mono (by first | decide | omega)) pass0 (pa_cons (pv 0) (pa_cons (pv 1) (pa_cons (pv 2) pa_nil)))))) (pe_op op_cat (pe_op op_rep (pe_lst (pa_cons pe_str pa_nil)) pe_int) (pe_op op_rep (pe_lst (pa_cons pe_str pa_nil)) pe_int)) (nomark _)) (pss_one (ps_ret pe_bl)) pss_nil)) (pssb_cons (PSb.mk (ps_set (i := 6) sc_law.nd rfl (by first | exact Or.inl rfl | exact Or.inr rfl) (pe_ifExp (pt_cmpR op_le (pe_op op_add (pv 1) (pe_callB (kLen K) (by rfl) T.n_len boot_len (pa_cons (pe_ix (kIxT K) (pv 4) pe_int (fun _ _ => rfl)) pa_nil))) pe_int (nomark _)) pe_str pe_str))) (pssb_cons (PSb.mk (ps_set (i := 7) sc_law.nd rfl (by first | exact Or.inl rfl | exact Or.inr rfl) (pe_ifExp (pt_cmpR op_le (pe_op op_mul (pv 1) (pe_callB (kLen K) (by rfl) T.n_len boot_len (pa_cons (pe_ix (kIxT K) (pv 4) pe_int (fun _ _ => rfl)) pa_nil))) pe_int (nomark _)) pe_str pe_str))) (pssb_one (PSb.mk (ps_ret (pe_cmpR (kEqD K hr.units) (pe_comp (N' := ["_law_way", "_law_one", "_law_other"]) (ix := [none, some 3, some 4]) (compScope_of (by kernel_rfl)) rfl (pi_range1 rfl T.n_range (pa_cons pe_int pa_nil)) (fun _ _ _ _ => (pg_name (i := 0) (show List.Nodup (["_law_way", "_law_one", "_law_other"] : List Str) from by decide +kernel) rfl (by first | exact Or.inl rfl | exact Or.inr rfl))) (fun _ _ _ _ => pf_nil) (fun _ _ _ _ => (pe_callD T._law_told G__law_told (hr.mono (by first | decide | omega)) pass0 (pa_cons (pv 0) (pa_cons (pv 1) (pa_cons (pv 2) pa_nil)))))) (pe_op op_cat (pe_op op_cat (pe_op op_rep (pe_lst (pa_cons (pv 6) pa_nil)) pe_int) (pe_lst (pa_cons (pv 7) pa_nil))) (pe_op op_rep (pe_lst (pa_cons pe_str pa_nil)) pe_int)) (nomark _))))))))))))))), ?_⟩
  obtain ⟨n, hn, hn16⟩ : ∃ n : Nat, mix ns 0 % 17 = (n : Int) ∧ n ≤ 16 := ⟨(mix ns 0 % 17).toNat, by omega, by omega⟩
  refine rq_set (gv_eq (gv_iic (gv_mix hS hl (Same.refl _) (ga_cons (gv_var (by rfl)) fun _ _ => ga_1 gv_c)) (fun _ _ => gv_c) (by decide)) (y := .int (n : Int)) (congrArg V.int hn)) fun H1 s1 => ?_
  have hmx : (0 : Int) < (if (n : Int) > 1 then (n : Int) else 1) ∧ (if (n : Int) > 1 then (n : Int) else 1) < 1073741824 := by split <;> omega
  have hdv : 0 ≤ (16 : Int) / (if (n : Int) > 1 then (n : Int) else 1) ∧ (16 : Int) / (if (n : Int) > 1 then (n : Int) else 1) ≤ 16 := ⟨Int.ediv_nonneg (by decide) (by omega), Int.ediv_le_self _ (by decide)⟩
  refine rq_set' (gp_ix (K := K) (n := 5) (i := mix ns 1 % 5) pn_stay (glp_lst pn_stay (gap_cons pn_stay (gp_int (gv_ii gv_c fun _ _ => gv_var (by rfl)) (by omega) (by omega)) fun H2 s2 => gap_cons pn_stay (gp_int (gv_ii gv_c fun _ _ => gv_var (by rfl)) (by omega) (by omega)) fun H3 s3 => gap_cons pn_stay (gp_int gv_c (by decide) (by decide)) fun H4 s4 =>
      gap_cons pn_stay (gp_int (gv_iic gv_c (fun _ _ => gv_max2 (ga_cons gv_c fun _ _ => ga_1 (gv_var (by rfl)))) hmx) (by omega) (by omega)) fun H5 s5 => gap_cons pn_stay (gp_int (gv_ii gv_c fun _ _ => gv_iic gv_c (fun _ _ => gv_max2 (ga_cons gv_c fun _ _ => ga_1 (gv_var (by rfl)))) hmx) (by omega) (by omega)) fun H6 s6 => gap_nil) (by show 5 ≤ sizeLine; decide))
    (fun H2 s2 => gv_iic (gv_mix hS hl (s1.trans s2) (ga_cons (gv_var (by rfl)) fun _ _ => ga_1 gv_c)) (fun _ _ => gv_c) (by decide)) (Int.emod_nonneg _ (by decide)) (Int.emod_lt_of_pos _ (by decide)) _ fun v H2 s2 pv => ?_)
  obtain ⟨m0, rfl, hm0⟩ := pv
  have s02 := s1.trans s2
  refine rq_set' (gp_emp (K := K) (x := repS ⟨#[97]⟩ n) (gv_mulZ gv_c (fun _ _ => gv_var (by rfl)) (by omega)) _ fun v H3 s3 pv => ?_)
  obtain ⟨one, rfl, h1⟩ := pv
  have s03 := s02.trans s3
  obtain ⟨m, hm, hm16⟩ : ∃ m : Nat, (if (m0 : Int) < 16 then (m0 : Int) else 16) = (m : Int) ∧ m ≤ 16 := ⟨min m0 16, by split <;> omega, by omega⟩
  refine rq_set' (gp_emp (K := K) (x := repS ⟨#[98]⟩ m) (gv_mulZ gv_c (fun _ _ => gv_eq (gv_min2 (ga_cons gv_c fun _ _ => ga_1 (gv_var (by rfl)))) (congrArg V.int hm)) (by omega)) _ fun v H4 s4 pv => ?_)
  obtain ⟨oth, rfl, h2⟩ := pv
  have s04 := s03.trans s4
  refine rq_set' (gp_ix (K := K) (n := 4) (i := mix ns 2 % 4) (pb_stay (K := K)) (glp_lst pb_stay (gap_cons pb_stay (gp_bad0 (x := "e") gv_c (by decide) (by decide +kernel)) fun H5 s5 => gap_cons pb_stay (gp_bad1 (x := "ab") (tl := [0, 0, 0]) gv_c (fun _ _ => ga_cons gv_c fun _ _ => ga_cons gv_c fun _ _ => ga_1 gv_c) (by decide) (by decide) (by decide +kernel)) fun H6 s6 =>
      gap_cons pb_stay (gp_bad0 (x := repS ⟨#[97]⟩ 17) (gv_mulZ gv_c (fun _ _ => gv_c) (by decide)) (by rw [repS_len]; decide) (by decide +kernel)) fun H7 s7 => gap_cons pb_stay (gp_bad1 (x := "a") (tl := [0, 0, 0, 1]) gv_c (fun _ _ => ga_cons gv_c fun _ _ => ga_cons gv_c fun _ _ => ga_cons gv_c fun _ _ => ga_1 gv_c) (by decide) (by decide) (by decide +kernel)) fun H8 s8 => gap_nil) (by show 4 ≤ sizeLine; decide))
    (fun H5 s5 => gv_iic (gv_mix hS hl (s04.trans s5) (ga_cons (gv_var (by rfl)) fun _ _ => ga_1 gv_c)) (fun _ _ => gv_c) (by decide)) (Int.emod_nonneg _ (by decide)) (Int.emod_lt_of_pos _ (by decide)) _ fun v H5 s5 pv => ?_)
  obtain ⟨bad, xb, tb, rfl, hb, hMb, hsb⟩ := pv
  have h15 := h1.same (s4.trans s5)
  have h25 := h2.same s5
  clear h1 h2
  have so : sysB (repS ⟨#[97]⟩ n) [] = true := ok_rep (by decide +kernel) hn16
  have st : sysB (repS ⟨#[98]⟩ m) [] = true := ok_rep (by decide +kernel) hm16
  have hab : AB (repS ⟨#[97]⟩ n) (repS ⟨#[98]⟩ m) := ⟨fun c hc => by rw [repS_one] at hc; exact (List.mem_replicate.mp hc).2, fun c hc => by rw [repS_one] at hc; exact (List.mem_replicate.mp hc).2⟩
  have hM1 : Mild (repS ⟨#[97]⟩ n) [] := mild0 (by rw [repS_len]; omega)
  have hM2 : Mild (repS ⟨#[98]⟩ m) [] := mild0 (by rw [repS_len]; omega)
  have nb1 : ∀ (i : Nat) (y : Str) us, okN i xb y tb us = false := fun i y us => by
    unfold okN okJ
    rw [hsb]
    split
    · rfl
    · split <;> rfl
  have nb2 : ∀ (i : Nat), okN i (repS ⟨#[97]⟩ n) xb [] tb = decide (4 ≤ i) := fun i => by
    unfold okN okJ
    rw [hsb, so]
    split
    · rw [decide_eq_false (by omega)]; rfl
    · split
      · rw [decide_eq_false (by omega)]; rfl
      · rw [decide_eq_true (by omega)]
  have nb3 : ∀ (i : Nat), okN i (repS ⟨#[97]⟩ n) (repS ⟨#[98]⟩ m) [] [] = if i < 3 then decide (n + m ≤ 16) else if i = 3 then decide (n * m ≤ 16) else true := fun i => by
    unfold okN okJ limS limM
    rw [so, st, repS_len, repS_len]
    rfl
  refine rq_if (b := false) (gt_test (gv_neW (K := K) (ws := List.replicate 6 "system") (fun R r => ?_) fun H6 s6 => gn_eq (gn_rep (k := 6) (gn_lst (xs := [.str "system"]) (ga_1 gv_c) (by show 1 ≤ sizeLine; decide)) (fun _ _ => gv_c) (by decide) (by decide)) rfl)) (fun z => absurd z (by decide)) fun _ H6 s6 => ?_
  · refine tcompR (ga_1 gv_c) (by decide) (by decide) fun H6 s6 => ?_
    refine comp_range_map (fun i => .str "system") (by show 6 ≤ sizeLine; decide) (fun i H7 R7 hi s7 k7 => ?_) fun D H7 hD s7 hDl => r D H7 (s6.free hD) (s6.trans s7) hDl
    have s57 := s6.trans s7
    exact gv_to (gv_call (ga_cons (gv_var (by rfl)) fun _ _ => ga_cons (gv_var (by rfl)) fun _ _ => ga_1 (gv_var (by rfl))) fun H8 R8 s8 k8 => ⟨i, bad, oth, xb, repS ⟨#[98]⟩ m, tb, [], by simp, hi, hb.same (s57.trans s8), hMb, (h25.same (s57.trans s8)).sys, hM2, fun z => by (rw [nb1] at z; cases z), fun H9 s9 => by
      unfold wdN
      rw [nb1]
      exact k8 H9 s9⟩) fun H8 s8 => k7 H8 s8
  refine rq_if (b := false) (gt_test (gv_neW (K := K) (ws := List.replicate 4 ("system" : Str) ++ List.replicate 2 ("ok" : Str)) (fun R r => ?_) fun H7 s7 => gn_eq (gn_catN (gn_rep (k := 4) (gn_lst (xs := [.str "system"]) (ga_1 gv_c) (by show 1 ≤ sizeLine; decide)) (fun _ _ => gv_c) (by decide) (by decide)) (fun _ _ => gn_rep (k := 2) (gn_lst (xs := [.str "ok"]) (ga_1 gv_c) (by show 1 ≤ sizeLine; decide)) (fun _ _ => gv_c) (by decide) (by decide)) (by show 6 ≤ sizeLine; decide)) rfl)) (fun z => absurd z (by decide)) fun _ H7 s7 => ?_
  · refine tcompR (ga_1 gv_c) (by decide) (by decide) fun H7 s7 => ?_
    refine comp_range_map (fun i => .str (if 4 ≤ i then "ok" else "system")) (by show 6 ≤ sizeLine; decide) (fun i H8 R8 hi s8 k8 => ?_) fun D H8 hD s8 hDl => r D H8 (s7.free hD) (s7.trans s8) hDl
    have s58 := s6.trans (s7.trans s8)
    exact gv_to (gv_call (ga_cons (gv_var (by rfl)) fun _ _ => ga_cons (gv_var (by rfl)) fun _ _ => ga_1 (gv_var (by rfl))) fun H9 R9 s9 k9 => ⟨i, one, bad, repS ⟨#[97]⟩ n, xb, [], tb, by simp, hi, (h15.same (s58.trans s9)).sys, hM1, hb.same (s58.trans s9), hMb, fun z => ⟨h15.same (s58.trans s9), fun z4 => by
      rw [nb2, decide_eq_true_eq] at z
      omega⟩, fun HA sA => by
      have e : wdN i (repS ⟨#[97]⟩ n) xb [] tb = if 4 ≤ i then ("ok" : Str) else ("system" : Str) := by
        unfold wdN
        rw [nb2]
        by_cases c : 4 ≤ i
        · rw [decide_eq_true c, if_pos rfl, if_pos c]
        · rw [decide_eq_false c, if_neg (by decide), if_neg c]
      rw [e]
      exact k9 HA sA⟩) fun H9 s9 => k8 H9 s9
  have s57 := s6.trans s7
  obtain ⟨T1, hT1, _⟩ := id h15
  obtain ⟨T2, hT2, _⟩ := id h25
  have len2 : ∀ {σ : L2.St} {Hx : Hp}, σ[4]? = some (some (V.ref oth)) → Same H5 Hx → Gv (tCB (fun xs H Q => ∃ x n, xs = [x] ∧ LenV K x H n ∧ Q (.int n) H) (tCons (tOp (rIxT K) (tVar 4) (tC (.int 0))) tNil)) σ Hx (.int (m : Int)) := fun h4 sx => gv_eq (gv_lenS (K := K) (ga_1 (gv_ixT (K := K) (gv_var h4) (fun _ _ => gv_c) (sx.tup hT2) (atI_nat (j := 0) rfl))) (by rw [repS_len]; exact small (by omega))) (by rw [repS_len])
  refine rq_set (v := .str (if n + m ≤ 16 then "ok" else "system")) (gv_if (p := decide (n + m ≤ 16)) (gt_eq (gt_test (gv_ii (gv_ii (gv_var (by rfl)) fun H8 s8 => len2 rfl (s57.trans s8)) fun _ _ => gv_c)) (by rw [decide_eq_decide]; omega)) (fun c _ _ => gv_eq gv_c (by rw [if_pos (of_decide_eq_true c)])) fun c _ _ => gv_eq gv_c (by rw [if_neg (of_decide_eq_false c)])) fun H8 s8 => ?_
  have cst : (n : Int) * (m : Int) = ((n * m : Nat) : Int) := by push_cast; rfl
  refine rq_set (v := .str (if n * m ≤ 16 then "ok" else "system")) (gv_if (p := decide (n * m ≤ 16)) (gt_eq (gt_test (gv_ii (gv_iic (gv_var (by rfl)) (fun H9 s9 => len2 rfl (s57.trans (s8.trans s9))) (.inl ⟨by omega, by omega⟩)) fun _ _ => gv_c)) (by rw [decide_eq_decide, cst]; omega)) (fun c _ _ => gv_eq gv_c (by rw [if_pos (of_decide_eq_true c)])) fun c _ _ => gv_eq gv_c (by rw [if_neg (of_decide_eq_false c)])) fun H9 s9 => ?_
  have s59 := s57.trans (s8.trans s9)
  generalize hA : (if n + m ≤ 16 then "ok" else "system" : Str) = wA
  generalize hB : (if n * m ≤ 16 then "ok" else "system" : Str) = wB
  refine rs_ret (v := .bl true) (gv_eqW (K := K) (ws := [wA, wA, wA, wB, "ok", "ok"]) (fun R r => ?_) fun HA sA => gn_eq (gn_catN (gn_catN (gn_rep (k := 3) (gn_lst (xs := [.str wA]) (ga_1 (gv_var (by rfl))) (by show 1 ≤ sizeLine; decide)) (fun _ _ => gv_c) (by decide) (by show 1 * 3 ≤ 1000; decide)) (fun _ _ => gn_lst (xs := [.str wB]) (ga_1 (gv_var (by rfl))) (by show 1 ≤ sizeLine; decide)) (by show 4 ≤ sizeLine; decide)) (fun _ _ => gn_rep (k := 2) (gn_lst (xs := [.str "ok"]) (ga_1 gv_c) (by show 1 ≤ sizeLine; decide)) (fun _ _ => gv_c) (by decide) (by decide)) (by show 6 ≤ sizeLine; decide)) rfl) fun HA sA => kk HA
  refine tcompR (ga_1 gv_c) (by decide) (by decide) fun HA sA => ?_
  refine comp_range_map (fun i => .str (if i < 3 then wA else if i = 3 then wB else "ok")) (by show 6 ≤ sizeLine; decide) (fun i HB RB hi sB kB => ?_) fun D HB hD sB hDl => r D HB (sA.free hD) (sA.trans sB) hDl
  have s5B := s59.trans (sA.trans sB)
  exact gv_to (gv_call (ga_cons (gv_var (by rfl)) fun _ _ => ga_cons (gv_var (by rfl)) fun _ _ => ga_1 (gv_var (by rfl))) fun HC RC sC kC => ⟨i, one, oth, repS ⟨#[97]⟩ n, repS ⟨#[98]⟩ m, [], [], by simp, hi, (h15.same (s5B.trans sC)).sys, hM1, (h25.same (s5B.trans sC)).sys, hM2, fun z => ⟨h15.same (s5B.trans sC), fun z4 => ⟨h25.same (s5B.trans sC), hab⟩⟩, fun HD sD => by
    have e : wdN i (repS ⟨#[97]⟩ n) (repS ⟨#[98]⟩ m) [] [] = if i < 3 then wA else if i = 3 then wB else ("ok" : Str) := by
      unfold wdN
      rw [nb3, ← hA, ← hB]
      by_cases c : i < 3
      · rw [if_pos c, if_pos c]
        simp
      · rw [if_neg c, if_neg c]
        by_cases d : i = 3
        · rw [if_pos d, if_pos d]
          simp
        · rw [if_neg d, if_neg d, if_pos rfl]
    rw [e]
    exact kC HD sD⟩) fun HC sC => kB HC sC
end
end K41

namespace K41
open PySem PySem.Spec PyProof.Rows L2
theorem txt_mk {K : PySem.W.Frag} {h : Heap} {mg : Str → Option Value} {fa : Addr} (X : K.In h) (G : h.Ns mainGlobals mg) (hfa : mg "law" = some (.ref fa))
    {f_are_letters : Addr} {od_are_letters an_are_letters : Option Addr} {sl_are_letters : Array (Option Value)} {oc_are_letters kV_are_letters dc_are_letters pm_are_letters cd_are_letters ct_are_letters : Value}
    {f_are_fields : Addr} {od_are_fields an_are_fields : Option Addr} {sl_are_fields : Array (Option Value)} {oc_are_fields kV_are_fields dc_are_fields pm_are_fields cd_are_fields ct_are_fields : Value}
    {f_rises : Addr} {od_rises an_rises : Option Addr} {sl_rises : Array (Option Value)} {oc_rises kV_rises dc_rises pm_rises cd_rises ct_rises : Value}
    {f_is_system : Addr} {od_is_system an_is_system : Option Addr} {sl_is_system : Array (Option Value)} {oc_is_system kV_is_system dc_is_system pm_is_system cd_is_system ct_is_system : Value}
    {f_look_system : Addr} {od_look_system an_look_system : Option Addr} {sl_look_system : Array (Option Value)} {oc_look_system kV_look_system dc_look_system pm_look_system cd_look_system ct_look_system : Value}
    {f_mirrored_tiles : Addr} {od_mirrored_tiles an_mirrored_tiles : Option Addr} {sl_mirrored_tiles : Array (Option Value)} {oc_mirrored_tiles kV_mirrored_tiles dc_mirrored_tiles pm_mirrored_tiles cd_mirrored_tiles ct_mirrored_tiles : Value}
    {f_look_together : Addr} {od_look_together an_look_together : Option Addr} {sl_look_together : Array (Option Value)} {oc_look_together kV_look_together dc_look_together pm_look_together cd_look_together ct_look_together : Value}
    {f_look_both : Addr} {od_look_both an_look_both : Option Addr} {sl_look_both : Array (Option Value)} {oc_look_both kV_look_both dc_look_both pm_look_both cd_look_both ct_look_both : Value}
    {f_each_once : Addr} {od_each_once an_each_once : Option Addr} {sl_each_once : Array (Option Value)} {oc_each_once kV_each_once dc_each_once pm_each_once cd_each_once ct_each_once : Value}
    {f_moved_field : Addr} {od_moved_field an_moved_field : Option Addr} {sl_moved_field : Array (Option Value)} {oc_moved_field kV_moved_field dc_moved_field pm_moved_field cd_moved_field ct_moved_field : Value}
    {f_moved_tiles : Addr} {od_moved_tiles an_moved_tiles : Option Addr} {sl_moved_tiles : Array (Option Value)} {oc_moved_tiles kV_moved_tiles dc_moved_tiles pm_moved_tiles cd_moved_tiles ct_moved_tiles : Value}
    {f_stood_tiles : Addr} {od_stood_tiles an_stood_tiles : Option Addr} {sl_stood_tiles : Array (Option Value)} {oc_stood_tiles kV_stood_tiles dc_stood_tiles pm_stood_tiles cd_stood_tiles ct_stood_tiles : Value}
    {f_either : Addr} {od_either an_either : Option Addr} {sl_either : Array (Option Value)} {oc_either kV_either dc_either pm_either cd_either ct_either : Value}
    {f_pairs_of_marks : Addr} {od_pairs_of_marks an_pairs_of_marks : Option Addr} {sl_pairs_of_marks : Array (Option Value)} {oc_pairs_of_marks kV_pairs_of_marks dc_pairs_of_marks pm_pairs_of_marks cd_pairs_of_marks ct_pairs_of_marks : Value}
    {f_face_of : Addr} {od_face_of an_face_of : Option Addr} {sl_face_of : Array (Option Value)} {oc_face_of kV_face_of dc_face_of pm_face_of cd_face_of ct_face_of : Value}
    {f_tiles_by_face : Addr} {od_tiles_by_face an_tiles_by_face : Option Addr} {sl_tiles_by_face : Array (Option Value)} {oc_tiles_by_face kV_tiles_by_face dc_tiles_by_face pm_tiles_by_face cd_tiles_by_face ct_tiles_by_face : Value}
    {f_paired_tiles : Addr} {od_paired_tiles an_paired_tiles : Option Addr} {sl_paired_tiles : Array (Option Value)} {oc_paired_tiles kV_paired_tiles dc_paired_tiles pm_paired_tiles cd_paired_tiles ct_paired_tiles : Value}
    {f_meeting : Addr} {od_meeting an_meeting : Option Addr} {sl_meeting : Array (Option Value)} {oc_meeting kV_meeting dc_meeting pm_meeting cd_meeting ct_meeting : Value}
    {f_left_of : Addr} {od_left_of an_left_of : Option Addr} {sl_left_of : Array (Option Value)} {oc_left_of kV_left_of dc_left_of pm_left_of cd_left_of ct_left_of : Value}
    {f_right_of : Addr} {od_right_of an_right_of : Option Addr} {sl_right_of : Array (Option Value)} {oc_right_of kV_right_of dc_right_of pm_right_of cd_right_of ct_right_of : Value}
    {f_is_seam : Addr} {od_is_seam an_is_seam : Option Addr} {sl_is_seam : Array (Option Value)} {oc_is_seam kV_is_seam dc_is_seam pm_is_seam cd_is_seam ct_is_seam : Value}
    {f_seam_tiles : Addr} {od_seam_tiles an_seam_tiles : Option Addr} {sl_seam_tiles : Array (Option Value)} {oc_seam_tiles kV_seam_tiles dc_seam_tiles pm_seam_tiles cd_seam_tiles ct_seam_tiles : Value}
    {f_beside_tiles : Addr} {od_beside_tiles an_beside_tiles : Option Addr} {sl_beside_tiles : Array (Option Value)} {oc_beside_tiles kV_beside_tiles dc_beside_tiles pm_beside_tiles cd_beside_tiles ct_beside_tiles : Value}
    {f_beside_of : Addr} {od_beside_of an_beside_of : Option Addr} {sl_beside_of : Array (Option Value)} {oc_beside_of kV_beside_of dc_beside_of pm_beside_of cd_beside_of ct_beside_of : Value}
    {f_over_of : Addr} {od_over_of an_over_of : Option Addr} {sl_over_of : Array (Option Value)} {oc_over_of kV_over_of dc_over_of pm_over_of cd_over_of ct_over_of : Value}
    {f_mirrored_of : Addr} {od_mirrored_of an_mirrored_of : Option Addr} {sl_mirrored_of : Array (Option Value)} {oc_mirrored_of kV_mirrored_of dc_mirrored_of pm_mirrored_of cd_mirrored_of ct_mirrored_of : Value}
    {f_stood_system : Addr} {od_stood_system an_stood_system : Option Addr} {sl_stood_system : Array (Option Value)} {oc_stood_system kV_stood_system dc_stood_system pm_stood_system cd_stood_system ct_stood_system : Value}
    {f__law_cell : Addr} {od__law_cell an__law_cell : Option Addr} {sl__law_cell : Array (Option Value)} {oc__law_cell kV__law_cell dc__law_cell pm__law_cell cd__law_cell ct__law_cell : Value}
    {f__law_mix : Addr} {od__law_mix an__law_mix : Option Addr} {sl__law_mix : Array (Option Value)} {oc__law_mix kV__law_mix dc__law_mix pm__law_mix cd__law_mix ct__law_mix : Value}
    {f__law_refusal : Addr} {od__law_refusal an__law_refusal : Option Addr} {sl__law_refusal : Array (Option Value)} {oc__law_refusal kV__law_refusal dc__law_refusal pm__law_refusal cd__law_refusal ct__law_refusal : Value}
    {f__law_told : Addr} {od__law_told an__law_told : Option Addr} {sl__law_told : Array (Option Value)} {oc__law_told kV__law_told dc__law_told pm__law_told cd__law_told ct__law_told : Value}
    {f_law : Addr} {od_law an_law : Option Addr} {sl_law : Array (Option Value)} {oc_law kV_law dc_law pm_law cd_law ct_law : Value}
    {tk_LETTERS : Tok}
    {tk_BORDER : Tok}
    {tk_MOST_MARKS : Tok}
    {tk_TILE_FIELDS : Tok}
    {e_EDGE : Addr} {od_EDGE : Option Addr} {n_EDGE : Nat} {sl_EDGE : Array (Option Value)} {tk0_EDGE tk1_EDGE : Tok}
    {c_QuiltError : Addr}
    {c_BadPicture : Addr}
    {c_BadSize : Addr}
    {c_BadSystem : Addr}
    {c_BadText : Addr}
    {c_Unlike : Addr}
    (a_are_letters : PySem.W.nsIn K mainGlobals "are_letters" = some (some (.ref f_are_letters)))
    (l_are_letters : K.lookup f_are_letters = some ⟨oc_are_letters, od_are_letters, .func (PySem.W.fnOf "are_letters" "are_letters" (defArgs s_are_letters) (defBody s_are_letters) (defScope s_are_letters) .none kV_are_letters dc_are_letters pm_are_letters an_are_letters cd_are_letters ct_are_letters), sl_are_letters⟩)
    (c_are_letters : PySem.W.codeIn K cd_are_letters "are_letters" = true)
    (k_are_letters : PySem.W.keepIn K (.ref f_are_letters) = true)
    (a_are_fields : PySem.W.nsIn K mainGlobals "are_fields" = some (some (.ref f_are_fields)))
    (l_are_fields : K.lookup f_are_fields = some ⟨oc_are_fields, od_are_fields, .func (PySem.W.fnOf "are_fields" "are_fields" (defArgs s_are_fields) (defBody s_are_fields) (defScope s_are_fields) .none kV_are_fields dc_are_fields pm_are_fields an_are_fields cd_are_fields ct_are_fields), sl_are_fields⟩)
    (c_are_fields : PySem.W.codeIn K cd_are_fields "are_fields" = true)
    (k_are_fields : PySem.W.keepIn K (.ref f_are_fields) = true)
    (a_rises : PySem.W.nsIn K mainGlobals "rises" = some (some (.ref f_rises)))
    (l_rises : K.lookup f_rises = some ⟨oc_rises, od_rises, .func (PySem.W.fnOf "rises" "rises" (defArgs s_rises) (defBody s_rises) (defScope s_rises) .none kV_rises dc_rises pm_rises an_rises cd_rises ct_rises), sl_rises⟩)
    (c_rises : PySem.W.codeIn K cd_rises "rises" = true)
    (k_rises : PySem.W.keepIn K (.ref f_rises) = true)
    (a_is_system : PySem.W.nsIn K mainGlobals "is_system" = some (some (.ref f_is_system)))
    (l_is_system : K.lookup f_is_system = some ⟨oc_is_system, od_is_system, .func (PySem.W.fnOf "is_system" "is_system" (defArgs s_is_system) (defBody s_is_system) (defScope s_is_system) .none kV_is_system dc_is_system pm_is_system an_is_system cd_is_system ct_is_system), sl_is_system⟩)
    (c_is_system : PySem.W.codeIn K cd_is_system "is_system" = true)
    (k_is_system : PySem.W.keepIn K (.ref f_is_system) = true)
    (a_look_system : PySem.W.nsIn K mainGlobals "look_system" = some (some (.ref f_look_system)))
    (l_look_system : K.lookup f_look_system = some ⟨oc_look_system, od_look_system, .func (PySem.W.fnOf "look_system" "look_system" (defArgs s_look_system) (defBody s_look_system) (defScope s_look_system) .none kV_look_system dc_look_system pm_look_system an_look_system cd_look_system ct_look_system), sl_look_system⟩)
    (c_look_system : PySem.W.codeIn K cd_look_system "look_system" = true)
    (k_look_system : PySem.W.keepIn K (.ref f_look_system) = true)
    (a_mirrored_tiles : PySem.W.nsIn K mainGlobals "mirrored_tiles" = some (some (.ref f_mirrored_tiles)))
    (l_mirrored_tiles : K.lookup f_mirrored_tiles = some ⟨oc_mirrored_tiles, od_mirrored_tiles, .func (PySem.W.fnOf "mirrored_tiles" "mirrored_tiles" (defArgs s_mirrored_tiles) (defBody s_mirrored_tiles) (defScope s_mirrored_tiles) .none kV_mirrored_tiles dc_mirrored_tiles pm_mirrored_tiles an_mirrored_tiles cd_mirrored_tiles ct_mirrored_tiles), sl_mirrored_tiles⟩)
    (c_mirrored_tiles : PySem.W.codeIn K cd_mirrored_tiles "mirrored_tiles" = true)
    (k_mirrored_tiles : PySem.W.keepIn K (.ref f_mirrored_tiles) = true)
    (a_look_together : PySem.W.nsIn K mainGlobals "look_together" = some (some (.ref f_look_together)))
    (l_look_together : K.lookup f_look_together = some ⟨oc_look_together, od_look_together, .func (PySem.W.fnOf "look_together" "look_together" (defArgs s_look_together) (defBody s_look_together) (defScope s_look_together) .none kV_look_together dc_look_together pm_look_together an_look_together cd_look_together ct_look_together), sl_look_together⟩)
    (c_look_together : PySem.W.codeIn K cd_look_together "look_together" = true)
    (k_look_together : PySem.W.keepIn K (.ref f_look_together) = true)
    (a_look_both : PySem.W.nsIn K mainGlobals "look_both" = some (some (.ref f_look_both)))
    (l_look_both : K.lookup f_look_both = some ⟨oc_look_both, od_look_both, .func (PySem.W.fnOf "look_both" "look_both" (defArgs s_look_both) (defBody s_look_both) (defScope s_look_both) .none kV_look_both dc_look_both pm_look_both an_look_both cd_look_both ct_look_both), sl_look_both⟩)
    (c_look_both : PySem.W.codeIn K cd_look_both "look_both" = true)
    (k_look_both : PySem.W.keepIn K (.ref f_look_both) = true)
    (a_each_once : PySem.W.nsIn K mainGlobals "each_once" = some (some (.ref f_each_once)))
    (l_each_once : K.lookup f_each_once = some ⟨oc_each_once, od_each_once, .func (PySem.W.fnOf "each_once" "each_once" (defArgs s_each_once) (defBody s_each_once) (defScope s_each_once) .none kV_each_once dc_each_once pm_each_once an_each_once cd_each_once ct_each_once), sl_each_once⟩)
    (c_each_once : PySem.W.codeIn K cd_each_once "each_once" = true)
    (k_each_once : PySem.W.keepIn K (.ref f_each_once) = true)
    (a_moved_field : PySem.W.nsIn K mainGlobals "moved_field" = some (some (.ref f_moved_field)))
    (l_moved_field : K.lookup f_moved_field = some ⟨oc_moved_field, od_moved_field, .func (PySem.W.fnOf "moved_field" "moved_field" (defArgs s_moved_field) (defBody s_moved_field) (defScope s_moved_field) .none kV_moved_field dc_moved_field pm_moved_field an_moved_field cd_moved_field ct_moved_field), sl_moved_field⟩)
    (c_moved_field : PySem.W.codeIn K cd_moved_field "moved_field" = true)
    (k_moved_field : PySem.W.keepIn K (.ref f_moved_field) = true)
    (a_moved_tiles : PySem.W.nsIn K mainGlobals "moved_tiles" = some (some (.ref f_moved_tiles)))
    (l_moved_tiles : K.lookup f_moved_tiles = some ⟨oc_moved_tiles, od_moved_tiles, .func (PySem.W.fnOf "moved_tiles" "moved_tiles" (defArgs s_moved_tiles) (defBody s_moved_tiles) (defScope s_moved_tiles) .none kV_moved_tiles dc_moved_tiles pm_moved_tiles an_moved_tiles cd_moved_tiles ct_moved_tiles), sl_moved_tiles⟩)
    (c_moved_tiles : PySem.W.codeIn K cd_moved_tiles "moved_tiles" = true)
    (k_moved_tiles : PySem.W.keepIn K (.ref f_moved_tiles) = true)
    (a_stood_tiles : PySem.W.nsIn K mainGlobals "stood_tiles" = some (some (.ref f_stood_tiles)))
    (l_stood_tiles : K.lookup f_stood_tiles = some ⟨oc_stood_tiles, od_stood_tiles, .func (PySem.W.fnOf "stood_tiles" "stood_tiles" (defArgs s_stood_tiles) (defBody s_stood_tiles) (defScope s_stood_tiles) .none kV_stood_tiles dc_stood_tiles pm_stood_tiles an_stood_tiles cd_stood_tiles ct_stood_tiles), sl_stood_tiles⟩)
    (c_stood_tiles : PySem.W.codeIn K cd_stood_tiles "stood_tiles" = true)
    (k_stood_tiles : PySem.W.keepIn K (.ref f_stood_tiles) = true)
    (a_either : PySem.W.nsIn K mainGlobals "either" = some (some (.ref f_either)))
    (l_either : K.lookup f_either = some ⟨oc_either, od_either, .func (PySem.W.fnOf "either" "either" (defArgs s_either) (defBody s_either) (defScope s_either) .none kV_either dc_either pm_either an_either cd_either ct_either), sl_either⟩)
    (c_either : PySem.W.codeIn K cd_either "either" = true)
    (k_either : PySem.W.keepIn K (.ref f_either) = true)
    (a_pairs_of_marks : PySem.W.nsIn K mainGlobals "pairs_of_marks" = some (some (.ref f_pairs_of_marks)))
    (l_pairs_of_marks : K.lookup f_pairs_of_marks = some ⟨oc_pairs_of_marks, od_pairs_of_marks, .func (PySem.W.fnOf "pairs_of_marks" "pairs_of_marks" (defArgs s_pairs_of_marks) (defBody s_pairs_of_marks) (defScope s_pairs_of_marks) .none kV_pairs_of_marks dc_pairs_of_marks pm_pairs_of_marks an_pairs_of_marks cd_pairs_of_marks ct_pairs_of_marks), sl_pairs_of_marks⟩)
    (c_pairs_of_marks : PySem.W.codeIn K cd_pairs_of_marks "pairs_of_marks" = true)
    (k_pairs_of_marks : PySem.W.keepIn K (.ref f_pairs_of_marks) = true)
    (a_face_of : PySem.W.nsIn K mainGlobals "face_of" = some (some (.ref f_face_of)))
    (l_face_of : K.lookup f_face_of = some ⟨oc_face_of, od_face_of, .func (PySem.W.fnOf "face_of" "face_of" (defArgs s_face_of) (defBody s_face_of) (defScope s_face_of) .none kV_face_of dc_face_of pm_face_of an_face_of cd_face_of ct_face_of), sl_face_of⟩)
    (c_face_of : PySem.W.codeIn K cd_face_of "face_of" = true)
    (k_face_of : PySem.W.keepIn K (.ref f_face_of) = true)
    (a_tiles_by_face : PySem.W.nsIn K mainGlobals "tiles_by_face" = some (some (.ref f_tiles_by_face)))
    (l_tiles_by_face : K.lookup f_tiles_by_face = some ⟨oc_tiles_by_face, od_tiles_by_face, .func (PySem.W.fnOf "tiles_by_face" "tiles_by_face" (defArgs s_tiles_by_face) (defBody s_tiles_by_face) (defScope s_tiles_by_face) .none kV_tiles_by_face dc_tiles_by_face pm_tiles_by_face an_tiles_by_face cd_tiles_by_face ct_tiles_by_face), sl_tiles_by_face⟩)
    (c_tiles_by_face : PySem.W.codeIn K cd_tiles_by_face "tiles_by_face" = true)
    (k_tiles_by_face : PySem.W.keepIn K (.ref f_tiles_by_face) = true)
    (a_paired_tiles : PySem.W.nsIn K mainGlobals "paired_tiles" = some (some (.ref f_paired_tiles)))
    (l_paired_tiles : K.lookup f_paired_tiles = some ⟨oc_paired_tiles, od_paired_tiles, .func (PySem.W.fnOf "paired_tiles" "paired_tiles" (defArgs s_paired_tiles) (defBody s_paired_tiles) (defScope s_paired_tiles) .none kV_paired_tiles dc_paired_tiles pm_paired_tiles an_paired_tiles cd_paired_tiles ct_paired_tiles), sl_paired_tiles⟩)
    (c_paired_tiles : PySem.W.codeIn K cd_paired_tiles "paired_tiles" = true)
    (k_paired_tiles : PySem.W.keepIn K (.ref f_paired_tiles) = true)
    (a_meeting : PySem.W.nsIn K mainGlobals "meeting" = some (some (.ref f_meeting)))
    (l_meeting : K.lookup f_meeting = some ⟨oc_meeting, od_meeting, .func (PySem.W.fnOf "meeting" "meeting" (defArgs s_meeting) (defBody s_meeting) (defScope s_meeting) .none kV_meeting dc_meeting pm_meeting an_meeting cd_meeting ct_meeting), sl_meeting⟩)
    (c_meeting : PySem.W.codeIn K cd_meeting "meeting" = true)
    (k_meeting : PySem.W.keepIn K (.ref f_meeting) = true)
    (a_left_of : PySem.W.nsIn K mainGlobals "left_of" = some (some (.ref f_left_of)))
    (l_left_of : K.lookup f_left_of = some ⟨oc_left_of, od_left_of, .func (PySem.W.fnOf "left_of" "left_of" (defArgs s_left_of) (defBody s_left_of) (defScope s_left_of) .none kV_left_of dc_left_of pm_left_of an_left_of cd_left_of ct_left_of), sl_left_of⟩)
    (c_left_of : PySem.W.codeIn K cd_left_of "left_of" = true)
    (k_left_of : PySem.W.keepIn K (.ref f_left_of) = true)
    (a_right_of : PySem.W.nsIn K mainGlobals "right_of" = some (some (.ref f_right_of)))
    (l_right_of : K.lookup f_right_of = some ⟨oc_right_of, od_right_of, .func (PySem.W.fnOf "right_of" "right_of" (defArgs s_right_of) (defBody s_right_of) (defScope s_right_of) .none kV_right_of dc_right_of pm_right_of an_right_of cd_right_of ct_right_of), sl_right_of⟩)
    (c_right_of : PySem.W.codeIn K cd_right_of "right_of" = true)
    (k_right_of : PySem.W.keepIn K (.ref f_right_of) = true)
    (a_is_seam : PySem.W.nsIn K mainGlobals "is_seam" = some (some (.ref f_is_seam)))
    (l_is_seam : K.lookup f_is_seam = some ⟨oc_is_seam, od_is_seam, .func (PySem.W.fnOf "is_seam" "is_seam" (defArgs s_is_seam) (defBody s_is_seam) (defScope s_is_seam) .none kV_is_seam dc_is_seam pm_is_seam an_is_seam cd_is_seam ct_is_seam), sl_is_seam⟩)
    (c_is_seam : PySem.W.codeIn K cd_is_seam "is_seam" = true)
    (k_is_seam : PySem.W.keepIn K (.ref f_is_seam) = true)
    (a_seam_tiles : PySem.W.nsIn K mainGlobals "seam_tiles" = some (some (.ref f_seam_tiles)))
    (l_seam_tiles : K.lookup f_seam_tiles = some ⟨oc_seam_tiles, od_seam_tiles, .func (PySem.W.fnOf "seam_tiles" "seam_tiles" (defArgs s_seam_tiles) (defBody s_seam_tiles) (defScope s_seam_tiles) .none kV_seam_tiles dc_seam_tiles pm_seam_tiles an_seam_tiles cd_seam_tiles ct_seam_tiles), sl_seam_tiles⟩)
    (c_seam_tiles : PySem.W.codeIn K cd_seam_tiles "seam_tiles" = true)
    (k_seam_tiles : PySem.W.keepIn K (.ref f_seam_tiles) = true)
    (a_beside_tiles : PySem.W.nsIn K mainGlobals "beside_tiles" = some (some (.ref f_beside_tiles)))
    (l_beside_tiles : K.lookup f_beside_tiles = some ⟨oc_beside_tiles, od_beside_tiles, .func (PySem.W.fnOf "beside_tiles" "beside_tiles" (defArgs s_beside_tiles) (defBody s_beside_tiles) (defScope s_beside_tiles) .none kV_beside_tiles dc_beside_tiles pm_beside_tiles an_beside_tiles cd_beside_tiles ct_beside_tiles), sl_beside_tiles⟩)
    (c_beside_tiles : PySem.W.codeIn K cd_beside_tiles "beside_tiles" = true)
    (k_beside_tiles : PySem.W.keepIn K (.ref f_beside_tiles) = true)
    (a_beside_of : PySem.W.nsIn K mainGlobals "beside_of" = some (some (.ref f_beside_of)))
    (l_beside_of : K.lookup f_beside_of = some ⟨oc_beside_of, od_beside_of, .func (PySem.W.fnOf "beside_of" "beside_of" (defArgs s_beside_of) (defBody s_beside_of) (defScope s_beside_of) .none kV_beside_of dc_beside_of pm_beside_of an_beside_of cd_beside_of ct_beside_of), sl_beside_of⟩)
    (c_beside_of : PySem.W.codeIn K cd_beside_of "beside_of" = true)
    (k_beside_of : PySem.W.keepIn K (.ref f_beside_of) = true)
    (a_over_of : PySem.W.nsIn K mainGlobals "over_of" = some (some (.ref f_over_of)))
    (l_over_of : K.lookup f_over_of = some ⟨oc_over_of, od_over_of, .func (PySem.W.fnOf "over_of" "over_of" (defArgs s_over_of) (defBody s_over_of) (defScope s_over_of) .none kV_over_of dc_over_of pm_over_of an_over_of cd_over_of ct_over_of), sl_over_of⟩)
    (c_over_of : PySem.W.codeIn K cd_over_of "over_of" = true)
    (k_over_of : PySem.W.keepIn K (.ref f_over_of) = true)
    (a_mirrored_of : PySem.W.nsIn K mainGlobals "mirrored_of" = some (some (.ref f_mirrored_of)))
    (l_mirrored_of : K.lookup f_mirrored_of = some ⟨oc_mirrored_of, od_mirrored_of, .func (PySem.W.fnOf "mirrored_of" "mirrored_of" (defArgs s_mirrored_of) (defBody s_mirrored_of) (defScope s_mirrored_of) .none kV_mirrored_of dc_mirrored_of pm_mirrored_of an_mirrored_of cd_mirrored_of ct_mirrored_of), sl_mirrored_of⟩)
    (c_mirrored_of : PySem.W.codeIn K cd_mirrored_of "mirrored_of" = true)
    (k_mirrored_of : PySem.W.keepIn K (.ref f_mirrored_of) = true)
    (a_stood_system : PySem.W.nsIn K mainGlobals "stood_system" = some (some (.ref f_stood_system)))
    (l_stood_system : K.lookup f_stood_system = some ⟨oc_stood_system, od_stood_system, .func (PySem.W.fnOf "stood_system" "stood_system" (defArgs s_stood_system) (defBody s_stood_system) (defScope s_stood_system) .none kV_stood_system dc_stood_system pm_stood_system an_stood_system cd_stood_system ct_stood_system), sl_stood_system⟩)
    (c_stood_system : PySem.W.codeIn K cd_stood_system "stood_system" = true)
    (k_stood_system : PySem.W.keepIn K (.ref f_stood_system) = true)
    (a__law_cell : PySem.W.nsIn K mainGlobals "_law_cell" = some (some (.ref f__law_cell)))
    (l__law_cell : K.lookup f__law_cell = some ⟨oc__law_cell, od__law_cell, .func (PySem.W.fnOf "_law_cell" "_law_cell" (defArgs s__law_cell) (defBody s__law_cell) (defScope s__law_cell) .none kV__law_cell dc__law_cell pm__law_cell an__law_cell cd__law_cell ct__law_cell), sl__law_cell⟩)
    (c__law_cell : PySem.W.codeIn K cd__law_cell "_law_cell" = true)
    (k__law_cell : PySem.W.keepIn K (.ref f__law_cell) = true)
    (a__law_mix : PySem.W.nsIn K mainGlobals "_law_mix" = some (some (.ref f__law_mix)))
    (l__law_mix : K.lookup f__law_mix = some ⟨oc__law_mix, od__law_mix, .func (PySem.W.fnOf "_law_mix" "_law_mix" (defArgs s__law_mix) (defBody s__law_mix) (defScope s__law_mix) .none kV__law_mix dc__law_mix pm__law_mix an__law_mix cd__law_mix ct__law_mix), sl__law_mix⟩)
    (c__law_mix : PySem.W.codeIn K cd__law_mix "_law_mix" = true)
    (k__law_mix : PySem.W.keepIn K (.ref f__law_mix) = true)
    (a__law_refusal : PySem.W.nsIn K mainGlobals "_law_refusal" = some (some (.ref f__law_refusal)))
    (l__law_refusal : K.lookup f__law_refusal = some ⟨oc__law_refusal, od__law_refusal, .func (PySem.W.fnOf "_law_refusal" "_law_refusal" (defArgs s__law_refusal) (defBody s__law_refusal) (defScope s__law_refusal) .none kV__law_refusal dc__law_refusal pm__law_refusal an__law_refusal cd__law_refusal ct__law_refusal), sl__law_refusal⟩)
    (c__law_refusal : PySem.W.codeIn K cd__law_refusal "_law_refusal" = true)
    (k__law_refusal : PySem.W.keepIn K (.ref f__law_refusal) = true)
    (a__law_told : PySem.W.nsIn K mainGlobals "_law_told" = some (some (.ref f__law_told)))
    (l__law_told : K.lookup f__law_told = some ⟨oc__law_told, od__law_told, .func (PySem.W.fnOf "_law_told" "_law_told" (defArgs s__law_told) (defBody s__law_told) (defScope s__law_told) .none kV__law_told dc__law_told pm__law_told an__law_told cd__law_told ct__law_told), sl__law_told⟩)
    (c__law_told : PySem.W.codeIn K cd__law_told "_law_told" = true)
    (k__law_told : PySem.W.keepIn K (.ref f__law_told) = true)
    (a_law : PySem.W.nsIn K mainGlobals "law" = some (some (.ref f_law)))
    (l_law : K.lookup f_law = some ⟨oc_law, od_law, .func (PySem.W.fnOf "law" "law" (defArgs s_law) (defBody s_law) (defScope s_law) .none kV_law dc_law pm_law an_law cd_law ct_law), sl_law⟩)
    (c_law : PySem.W.codeIn K cd_law "law" = true)
    (k_law : PySem.W.keepIn K (.ref f_law) = true)
    (a_LETTERS : PySem.W.nsIn K mainGlobals "LETTERS" = some (some (.str "abcd" tk_LETTERS)))
    (a_BORDER : PySem.W.nsIn K mainGlobals "BORDER" = some (some (.int (-1) tk_BORDER)))
    (a_MOST_MARKS : PySem.W.nsIn K mainGlobals "MOST_MARKS" = some (some (.int 16 tk_MOST_MARKS)))
    (a_TILE_FIELDS : PySem.W.nsIn K mainGlobals "TILE_FIELDS" = some (some (.int 4 tk_TILE_FIELDS)))
    (a_EDGE : PySem.W.nsIn K mainGlobals "EDGE" = some (some (.ref e_EDGE)))
    (l_EDGE : K.lookup e_EDGE = some ⟨.type "tuple", od_EDGE, .seq #[.int (-1) tk0_EDGE, .int (-1) tk1_EDGE] n_EDGE, sl_EDGE⟩)
    (a_QuiltError : PySem.W.nsIn K mainGlobals "QuiltError" = some (some (.ref c_QuiltError)))
    (a_BadPicture : PySem.W.nsIn K mainGlobals "BadPicture" = some (some (.ref c_BadPicture)))
    (a_BadSize : PySem.W.nsIn K mainGlobals "BadSize" = some (some (.ref c_BadSize)))
    (a_BadSystem : PySem.W.nsIn K mainGlobals "BadSystem" = some (some (.ref c_BadSystem)))
    (a_BadText : PySem.W.nsIn K mainGlobals "BadText" = some (some (.ref c_BadText)))
    (a_Unlike : PySem.W.nsIn K mainGlobals "Unlike" = some (some (.ref c_Unlike)))
    (e_BadSystem : PySem.W.excIn K c_BadSystem [.type "ValueError", .type "Exception", .type "BaseException", .type "object"] "ValueError.__new__" = true)
    (g1_BadSystem : PySem.W.findIn K (.ref c_BadSystem) "__getattribute__" = some (some (.builtin "BaseException.__getattribute__")))
    (g2_BadSystem : PySem.W.findIn K (.ref c_BadSystem) "__getattr__" = some none)
    (g3_BadSystem : PySem.W.findIn K (.ref c_BadSystem) "__class__" = some (some (.builtin "object.__class__")))
    (g4_BadSystem : PySem.W.mroIn K c_BadSystem (.type "BaseException") = some true)
    (g5_BadSystem : PySem.W.mroIn K c_BadSystem (.type "object") = some true)
    (kk_BadSystem_BadPicture : PySem.W.kitOne K (.ref c_BadSystem) (.ref c_BadPicture) = some false)
    (kk_BadSystem_BadSize : PySem.W.kitOne K (.ref c_BadSystem) (.ref c_BadSize) = some false)
    (kk_BadSystem_BadSystem : PySem.W.kitOne K (.ref c_BadSystem) (.ref c_BadSystem) = some true)
    (kk_BadSystem_BadText : PySem.W.kitOne K (.ref c_BadSystem) (.ref c_BadText) = some false)
    (kk_BadSystem_Unlike : PySem.W.kitOne K (.ref c_BadSystem) (.ref c_Unlike) = some false)
    (kk_BadSystem_ValueError : PySem.W.kitOne K (.ref c_BadSystem) (.type "ValueError") = some true)
    (hh_BadSystem_QuiltError : PySem.W.exmOne K (.ref c_BadSystem) (.ref c_QuiltError) = some true)
    (z_len : PySem.W.nsIn K mainGlobals "len" = some none)
    (z_all : PySem.W.nsIn K mainGlobals "all" = some none)
    (z_range : PySem.W.nsIn K mainGlobals "range" = some none)
    (z_zip : PySem.W.nsIn K mainGlobals "zip" = some none)
    (z_isinstance : PySem.W.nsIn K mainGlobals "isinstance" = some none)
    (z_max : PySem.W.nsIn K mainGlobals "max" = some none)
    (z_min : PySem.W.nsIn K mainGlobals "min" = some none)
    (z_tuple : PySem.W.nsIn K mainGlobals "tuple" = some none)
    (z_sorted : PySem.W.nsIn K mainGlobals "sorted" = some none)
    (z_dict : PySem.W.nsIn K mainGlobals "dict" = some none)
    (z_enumerate : PySem.W.nsIn K mainGlobals "enumerate" = some none)
    (z_ValueError : PySem.W.nsIn K mainGlobals "ValueError" = some none) :
    ∃ t : Ad, Txt K mg t ∧ fa = t.f_law ∧ ∀ (s : Shared) (u : Value), BindsTo s t.d_law ⟨[u], []⟩ [("_law_script", u)] := by
  have e := hfa.symm.trans (PySem.W.mg_of X G a_law)
  cases e
  exact ⟨⟨f_are_letters, PySem.W.fnOf "are_letters" "are_letters" (defArgs s_are_letters) (defBody s_are_letters) (defScope s_are_letters) .none kV_are_letters dc_are_letters pm_are_letters an_are_letters cd_are_letters ct_are_letters, f_are_fields, PySem.W.fnOf "are_fields" "are_fields" (defArgs s_are_fields) (defBody s_are_fields) (defScope s_are_fields) .none kV_are_fields dc_are_fields pm_are_fields an_are_fields cd_are_fields ct_are_fields, f_rises, PySem.W.fnOf "rises" "rises" (defArgs s_rises) (defBody s_rises) (defScope s_rises) .none kV_rises dc_rises pm_rises an_rises cd_rises ct_rises, f_is_system, PySem.W.fnOf "is_system" "is_system" (defArgs s_is_system) (defBody s_is_system) (defScope s_is_system) .none kV_is_system dc_is_system pm_is_system an_is_system cd_is_system ct_is_system, f_look_system, PySem.W.fnOf "look_system" "look_system" (defArgs s_look_system) (defBody s_look_system) (defScope s_look_system) .none kV_look_system dc_look_system pm_look_system an_look_system cd_look_system ct_look_system, f_mirrored_tiles, PySem.W.fnOf "mirrored_tiles" "mirrored_tiles" (defArgs s_mirrored_tiles) (defBody s_mirrored_tiles) (defScope s_mirrored_tiles) .none kV_mirrored_tiles dc_mirrored_tiles pm_mirrored_tiles an_mirrored_tiles cd_mirrored_tiles ct_mirrored_tiles, f_look_together, PySem.W.fnOf "look_together" "look_together" (defArgs s_look_together) (defBody s_look_together) (defScope s_look_together) .none kV_look_together dc_look_together pm_look_together an_look_together cd_look_together ct_look_together, f_look_both, PySem.W.fnOf "look_both" "look_both" (defArgs s_look_both) (defBody s_look_both) (defScope s_look_both) .none kV_look_both dc_look_both pm_look_both an_look_both cd_look_both ct_look_both, f_each_once, PySem.W.fnOf "each_once" "each_once" (defArgs s_each_once) (defBody s_each_once) (defScope s_each_once) .none kV_each_once dc_each_once pm_each_once an_each_once cd_each_once ct_each_once, f_moved_field, PySem.W.fnOf "moved_field" "moved_field" (defArgs s_moved_field) (defBody s_moved_field) (defScope s_moved_field) .none kV_moved_field dc_moved_field pm_moved_field an_moved_field cd_moved_field ct_moved_field, f_moved_tiles, PySem.W.fnOf "moved_tiles" "moved_tiles" (defArgs s_moved_tiles) (defBody s_moved_tiles) (defScope s_moved_tiles) .none kV_moved_tiles dc_moved_tiles pm_moved_tiles an_moved_tiles cd_moved_tiles ct_moved_tiles, f_stood_tiles, PySem.W.fnOf "stood_tiles" "stood_tiles" (defArgs s_stood_tiles) (defBody s_stood_tiles) (defScope s_stood_tiles) .none kV_stood_tiles dc_stood_tiles pm_stood_tiles an_stood_tiles cd_stood_tiles ct_stood_tiles, f_either, PySem.W.fnOf "either" "either" (defArgs s_either) (defBody s_either) (defScope s_either) .none kV_either dc_either pm_either an_either cd_either ct_either, f_pairs_of_marks, PySem.W.fnOf "pairs_of_marks" "pairs_of_marks" (defArgs s_pairs_of_marks) (defBody s_pairs_of_marks) (defScope s_pairs_of_marks) .none kV_pairs_of_marks dc_pairs_of_marks pm_pairs_of_marks an_pairs_of_marks cd_pairs_of_marks ct_pairs_of_marks, f_face_of, PySem.W.fnOf "face_of" "face_of" (defArgs s_face_of) (defBody s_face_of) (defScope s_face_of) .none kV_face_of dc_face_of pm_face_of an_face_of cd_face_of ct_face_of, f_tiles_by_face, PySem.W.fnOf "tiles_by_face" "tiles_by_face" (defArgs s_tiles_by_face) (defBody s_tiles_by_face) (defScope s_tiles_by_face) .none kV_tiles_by_face dc_tiles_by_face pm_tiles_by_face an_tiles_by_face cd_tiles_by_face ct_tiles_by_face, f_paired_tiles, PySem.W.fnOf "paired_tiles" "paired_tiles" (defArgs s_paired_tiles) (defBody s_paired_tiles) (defScope s_paired_tiles) .none kV_paired_tiles dc_paired_tiles pm_paired_tiles an_paired_tiles cd_paired_tiles ct_paired_tiles, f_meeting, PySem.W.fnOf "meeting" "meeting" (defArgs s_meeting) (defBody s_meeting) (defScope s_meeting) .none kV_meeting dc_meeting pm_meeting an_meeting cd_meeting ct_meeting, f_left_of, PySem.W.fnOf "left_of" "left_of" (defArgs s_left_of) (defBody s_left_of) (defScope s_left_of) .none kV_left_of dc_left_of pm_left_of an_left_of cd_left_of ct_left_of, f_right_of, PySem.W.fnOf "right_of" "right_of" (defArgs s_right_of) (defBody s_right_of) (defScope s_right_of) .none kV_right_of dc_right_of pm_right_of an_right_of cd_right_of ct_right_of, f_is_seam, PySem.W.fnOf "is_seam" "is_seam" (defArgs s_is_seam) (defBody s_is_seam) (defScope s_is_seam) .none kV_is_seam dc_is_seam pm_is_seam an_is_seam cd_is_seam ct_is_seam, f_seam_tiles, PySem.W.fnOf "seam_tiles" "seam_tiles" (defArgs s_seam_tiles) (defBody s_seam_tiles) (defScope s_seam_tiles) .none kV_seam_tiles dc_seam_tiles pm_seam_tiles an_seam_tiles cd_seam_tiles ct_seam_tiles, f_beside_tiles, PySem.W.fnOf "beside_tiles" "beside_tiles" (defArgs s_beside_tiles) (defBody s_beside_tiles) (defScope s_beside_tiles) .none kV_beside_tiles dc_beside_tiles pm_beside_tiles an_beside_tiles cd_beside_tiles ct_beside_tiles, f_beside_of, PySem.W.fnOf "beside_of" "beside_of" (defArgs s_beside_of) (defBody s_beside_of) (defScope s_beside_of) .none kV_beside_of dc_beside_of pm_beside_of an_beside_of cd_beside_of ct_beside_of, f_over_of, PySem.W.fnOf "over_of" "over_of" (defArgs s_over_of) (defBody s_over_of) (defScope s_over_of) .none kV_over_of dc_over_of pm_over_of an_over_of cd_over_of ct_over_of, f_mirrored_of, PySem.W.fnOf "mirrored_of" "mirrored_of" (defArgs s_mirrored_of) (defBody s_mirrored_of) (defScope s_mirrored_of) .none kV_mirrored_of dc_mirrored_of pm_mirrored_of an_mirrored_of cd_mirrored_of ct_mirrored_of, f_stood_system, PySem.W.fnOf "stood_system" "stood_system" (defArgs s_stood_system) (defBody s_stood_system) (defScope s_stood_system) .none kV_stood_system dc_stood_system pm_stood_system an_stood_system cd_stood_system ct_stood_system, f__law_cell, PySem.W.fnOf "_law_cell" "_law_cell" (defArgs s__law_cell) (defBody s__law_cell) (defScope s__law_cell) .none kV__law_cell dc__law_cell pm__law_cell an__law_cell cd__law_cell ct__law_cell, f__law_mix, PySem.W.fnOf "_law_mix" "_law_mix" (defArgs s__law_mix) (defBody s__law_mix) (defScope s__law_mix) .none kV__law_mix dc__law_mix pm__law_mix an__law_mix cd__law_mix ct__law_mix, f__law_refusal, PySem.W.fnOf "_law_refusal" "_law_refusal" (defArgs s__law_refusal) (defBody s__law_refusal) (defScope s__law_refusal) .none kV__law_refusal dc__law_refusal pm__law_refusal an__law_refusal cd__law_refusal ct__law_refusal, f__law_told, PySem.W.fnOf "_law_told" "_law_told" (defArgs s__law_told) (defBody s__law_told) (defScope s__law_told) .none kV__law_told dc__law_told pm__law_told an__law_told cd__law_told ct__law_told, fa, PySem.W.fnOf "law" "law" (defArgs s_law) (defBody s_law) (defScope s_law) .none kV_law dc_law pm_law an_law cd_law ct_law, .str "abcd" tk_LETTERS, .int (-1) tk_BORDER, .int 16 tk_MOST_MARKS, .int 4 tk_TILE_FIELDS, e_EDGE, c_QuiltError, c_BadPicture, c_BadSize, c_BadSystem, c_BadText, c_Unlike⟩, ⟨⟨fun_mk (st := s_are_letters) l_are_letters c_are_letters k_are_letters, (fun_mk (st := s_are_letters) l_are_letters c_are_letters k_are_letters).binds (ps := ["text"]) (fun _ _ _ _ _ _ us hl => match us, hl with | [_], _ => rfl), PySem.W.mg_of X G a_are_letters⟩,
    ⟨fun_mk (st := s_are_fields) l_are_fields c_are_fields k_are_fields, (fun_mk (st := s_are_fields) l_are_fields c_are_fields k_are_fields).binds (ps := ["fields", "many", "marks"]) (fun _ _ _ _ _ _ us hl => match us, hl with | [_, _, _], _ => rfl), PySem.W.mg_of X G a_are_fields⟩,
    ⟨fun_mk (st := s_rises) l_rises c_rises k_rises, (fun_mk (st := s_rises) l_rises c_rises k_rises).binds (ps := ["tiles"]) (fun _ _ _ _ _ _ us hl => match us, hl with | [_], _ => rfl), PySem.W.mg_of X G a_rises⟩,
    ⟨fun_mk (st := s_is_system) l_is_system c_is_system k_is_system, (fun_mk (st := s_is_system) l_is_system c_is_system k_is_system).binds (ps := ["system"]) (fun _ _ _ _ _ _ us hl => match us, hl with | [_], _ => rfl), PySem.W.mg_of X G a_is_system⟩,
    ⟨fun_mk (st := s_look_system) l_look_system c_look_system k_look_system, (fun_mk (st := s_look_system) l_look_system c_look_system k_look_system).binds (ps := ["system"]) (fun _ _ _ _ _ _ us hl => match us, hl with | [_], _ => rfl), PySem.W.mg_of X G a_look_system⟩,
    ⟨fun_mk (st := s_mirrored_tiles) l_mirrored_tiles c_mirrored_tiles k_mirrored_tiles, (fun_mk (st := s_mirrored_tiles) l_mirrored_tiles c_mirrored_tiles k_mirrored_tiles).binds (ps := ["tiles"]) (fun _ _ _ _ _ _ us hl => match us, hl with | [_], _ => rfl), PySem.W.mg_of X G a_mirrored_tiles⟩,
    ⟨fun_mk (st := s_look_together) l_look_together c_look_together k_look_together, (fun_mk (st := s_look_together) l_look_together c_look_together k_look_together).binds (ps := ["marks"]) (fun _ _ _ _ _ _ us hl => match us, hl with | [_], _ => rfl), PySem.W.mg_of X G a_look_together⟩,
    ⟨fun_mk (st := s_look_both) l_look_both c_look_both k_look_both, (fun_mk (st := s_look_both) l_look_both c_look_both k_look_both).binds (ps := ["one", "other"]) (fun _ _ _ _ _ _ us hl => match us, hl with | [_, _], _ => rfl), PySem.W.mg_of X G a_look_both⟩,
    ⟨fun_mk (st := s_each_once) l_each_once c_each_once k_each_once, (fun_mk (st := s_each_once) l_each_once c_each_once k_each_once).binds (ps := ["tiles"]) (fun _ _ _ _ _ _ us hl => match us, hl with | [_], _ => rfl), PySem.W.mg_of X G a_each_once⟩,
    ⟨fun_mk (st := s_moved_field) l_moved_field c_moved_field k_moved_field, (fun_mk (st := s_moved_field) l_moved_field c_moved_field k_moved_field).binds (ps := ["field", "by"]) (fun _ _ _ _ _ _ us hl => match us, hl with | [_, _], _ => rfl), PySem.W.mg_of X G a_moved_field⟩,
    ⟨fun_mk (st := s_moved_tiles) l_moved_tiles c_moved_tiles k_moved_tiles, (fun_mk (st := s_moved_tiles) l_moved_tiles c_moved_tiles k_moved_tiles).binds (ps := ["tiles", "by"]) (fun _ _ _ _ _ _ us hl => match us, hl with | [_, _], _ => rfl), PySem.W.mg_of X G a_moved_tiles⟩,
    ⟨fun_mk (st := s_stood_tiles) l_stood_tiles c_stood_tiles k_stood_tiles, (fun_mk (st := s_stood_tiles) l_stood_tiles c_stood_tiles k_stood_tiles).binds (ps := ["tiles"]) (fun _ _ _ _ _ _ us hl => match us, hl with | [_], _ => rfl), PySem.W.mg_of X G a_stood_tiles⟩,
    ⟨fun_mk (st := s_either) l_either c_either k_either, (fun_mk (st := s_either) l_either c_either k_either).binds (ps := ["one", "other"]) (fun _ _ _ _ _ _ us hl => match us, hl with | [_, _], _ => rfl), PySem.W.mg_of X G a_either⟩,
    ⟨fun_mk (st := s_pairs_of_marks) l_pairs_of_marks c_pairs_of_marks k_pairs_of_marks, (fun_mk (st := s_pairs_of_marks) l_pairs_of_marks c_pairs_of_marks k_pairs_of_marks).binds (ps := ["one", "other"]) (fun _ _ _ _ _ _ us hl => match us, hl with | [_, _], _ => rfl), PySem.W.mg_of X G a_pairs_of_marks⟩,
    ⟨fun_mk (st := s_face_of) l_face_of c_face_of k_face_of, (fun_mk (st := s_face_of) l_face_of c_face_of k_face_of).binds (ps := ["letters", "tile"]) (fun _ _ _ _ _ _ us hl => match us, hl with | [_, _], _ => rfl), PySem.W.mg_of X G a_face_of⟩,
    ⟨fun_mk (st := s_tiles_by_face) l_tiles_by_face c_tiles_by_face k_tiles_by_face, (fun_mk (st := s_tiles_by_face) l_tiles_by_face c_tiles_by_face k_tiles_by_face).binds (ps := ["system"]) (fun _ _ _ _ _ _ us hl => match us, hl with | [_], _ => rfl), PySem.W.mg_of X G a_tiles_by_face⟩,
    ⟨fun_mk (st := s_paired_tiles) l_paired_tiles c_paired_tiles k_paired_tiles, (fun_mk (st := s_paired_tiles) l_paired_tiles c_paired_tiles k_paired_tiles).binds (ps := ["one", "other", "marks"]) (fun _ _ _ _ _ _ us hl => match us, hl with | [_, _, _], _ => rfl), PySem.W.mg_of X G a_paired_tiles⟩,
    ⟨fun_mk (st := s_meeting) l_meeting c_meeting k_meeting, (fun_mk (st := s_meeting) l_meeting c_meeting k_meeting).binds (ps := ["one", "other"]) (fun _ _ _ _ _ _ us hl => match us, hl with | [_, _], _ => rfl), PySem.W.mg_of X G a_meeting⟩,
    ⟨fun_mk (st := s_left_of) l_left_of c_left_of k_left_of, (fun_mk (st := s_left_of) l_left_of c_left_of k_left_of).binds (ps := ["tile"]) (fun _ _ _ _ _ _ us hl => match us, hl with | [_], _ => rfl), PySem.W.mg_of X G a_left_of⟩,
    ⟨fun_mk (st := s_right_of) l_right_of c_right_of k_right_of, (fun_mk (st := s_right_of) l_right_of c_right_of k_right_of).binds (ps := ["tile"]) (fun _ _ _ _ _ _ us hl => match us, hl with | [_], _ => rfl), PySem.W.mg_of X G a_right_of⟩,
    ⟨fun_mk (st := s_is_seam) l_is_seam c_is_seam k_is_seam, (fun_mk (st := s_is_seam) l_is_seam c_is_seam k_is_seam).binds (ps := ["left", "right"]) (fun _ _ _ _ _ _ us hl => match us, hl with | [_, _], _ => rfl), PySem.W.mg_of X G a_is_seam⟩,
    ⟨fun_mk (st := s_seam_tiles) l_seam_tiles c_seam_tiles k_seam_tiles, (fun_mk (st := s_seam_tiles) l_seam_tiles c_seam_tiles k_seam_tiles).binds (ps := ["tiles", "others"]) (fun _ _ _ _ _ _ us hl => match us, hl with | [_, _], _ => rfl), PySem.W.mg_of X G a_seam_tiles⟩,
    ⟨fun_mk (st := s_beside_tiles) l_beside_tiles c_beside_tiles k_beside_tiles, (fun_mk (st := s_beside_tiles) l_beside_tiles c_beside_tiles k_beside_tiles).binds (ps := ["tiles", "others"]) (fun _ _ _ _ _ _ us hl => match us, hl with | [_, _], _ => rfl), PySem.W.mg_of X G a_beside_tiles⟩,
    ⟨fun_mk (st := s_beside_of) l_beside_of c_beside_of k_beside_of, (fun_mk (st := s_beside_of) l_beside_of c_beside_of k_beside_of).binds (ps := ["one", "other"]) (fun _ _ _ _ _ _ us hl => match us, hl with | [_, _], _ => rfl), PySem.W.mg_of X G a_beside_of⟩,
    ⟨fun_mk (st := s_over_of) l_over_of c_over_of k_over_of, (fun_mk (st := s_over_of) l_over_of c_over_of k_over_of).binds (ps := ["one", "other"]) (fun _ _ _ _ _ _ us hl => match us, hl with | [_, _], _ => rfl), PySem.W.mg_of X G a_over_of⟩,
    ⟨fun_mk (st := s_mirrored_of) l_mirrored_of c_mirrored_of k_mirrored_of, (fun_mk (st := s_mirrored_of) l_mirrored_of c_mirrored_of k_mirrored_of).binds (ps := ["system"]) (fun _ _ _ _ _ _ us hl => match us, hl with | [_], _ => rfl), PySem.W.mg_of X G a_mirrored_of⟩,
    ⟨fun_mk (st := s_stood_system) l_stood_system c_stood_system k_stood_system, (fun_mk (st := s_stood_system) l_stood_system c_stood_system k_stood_system).binds (ps := ["system"]) (fun _ _ _ _ _ _ us hl => match us, hl with | [_], _ => rfl), PySem.W.mg_of X G a_stood_system⟩,
    ⟨fun_mk (st := s__law_cell) l__law_cell c__law_cell k__law_cell, (fun_mk (st := s__law_cell) l__law_cell c__law_cell k__law_cell).binds (ps := ["_law_script", "_law_k"]) (fun _ _ _ _ _ _ us hl => match us, hl with | [_, _], _ => rfl), PySem.W.mg_of X G a__law_cell⟩,
    ⟨fun_mk (st := s__law_mix) l__law_mix c__law_mix k__law_mix, (fun_mk (st := s__law_mix) l__law_mix c__law_mix k__law_mix).binds (ps := ["_law_script", "_law_k"]) (fun _ _ _ _ _ _ us hl => match us, hl with | [_, _], _ => rfl), PySem.W.mg_of X G a__law_mix⟩,
    ⟨fun_mk (st := s__law_refusal) l__law_refusal c__law_refusal k__law_refusal, (fun_mk (st := s__law_refusal) l__law_refusal c__law_refusal k__law_refusal).binds (ps := ["_law_kept"]) (fun _ _ _ _ _ _ us hl => match us, hl with | [_], _ => rfl), PySem.W.mg_of X G a__law_refusal⟩,
    ⟨fun_mk (st := s__law_told) l__law_told c__law_told k__law_told, (fun_mk (st := s__law_told) l__law_told c__law_told k__law_told).binds (ps := ["_law_way", "_law_one", "_law_other"]) (fun _ _ _ _ _ _ us hl => match us, hl with | [_, _, _], _ => rfl), PySem.W.mg_of X G a__law_told⟩,
    ⟨fun_mk (st := s_law) l_law c_law k_law, (fun_mk (st := s_law) l_law c_law k_law).binds (ps := ["_law_script"]) (fun _ _ _ _ _ _ us hl => match us, hl with | [_], _ => rfl), PySem.W.mg_of X G a_law⟩,
    PySem.W.mg_of X G a_LETTERS,
    ⟨_, rfl⟩,
    PySem.W.mg_of X G a_BORDER,
    ⟨_, rfl⟩,
    PySem.W.mg_of X G a_MOST_MARKS,
    ⟨_, rfl⟩,
    PySem.W.mg_of X G a_TILE_FIELDS,
    ⟨_, rfl⟩,
    PySem.W.mg_of X G a_EDGE,
    ⟨_, _, _, l_EDGE, rfl, rfl, by show 2 ≤ sizeLine; decide, .cons ⟨_, rfl⟩ (.cons ⟨_, rfl⟩ (.nil))⟩,
    PySem.W.mg_of X G a_QuiltError,
    PySem.W.mg_of X G a_BadPicture,
    PySem.W.mg_of X G a_BadSize,
    PySem.W.mg_of X G a_BadSystem,
    PySem.W.mg_of X G a_BadText,
    PySem.W.mg_of X G a_Unlike,
    ⟨PySem.W.mg_of X G a_BadSystem, e_BadSystem⟩,
    ⟨g1_BadSystem, g2_BadSystem, g3_BadSystem, g4_BadSystem, g5_BadSystem⟩,
    kk_BadSystem_BadPicture,
    kk_BadSystem_BadSize,
    kk_BadSystem_BadSystem,
    kk_BadSystem_BadText,
    kk_BadSystem_Unlike,
    kk_BadSystem_ValueError,
    hh_BadSystem_QuiltError,
    PySem.W.mg_none_of X G z_len,
    PySem.W.mg_none_of X G z_all,
    PySem.W.mg_none_of X G z_range,
    PySem.W.mg_none_of X G z_zip,
    PySem.W.mg_none_of X G z_isinstance,
    PySem.W.mg_none_of X G z_max,
    PySem.W.mg_none_of X G z_min,
    PySem.W.mg_none_of X G z_tuple,
    PySem.W.mg_none_of X G z_sorted,
    PySem.W.mg_none_of X G z_dict,
    PySem.W.mg_none_of X G z_enumerate,
    PySem.W.mg_none_of X G z_ValueError⟩, rfl, fun s u => .of_eq rfl⟩

theorem all_of {P : Program} {w : World} {K : PySem.W.Frag} {mg : Str → Option Value} {fa : Addr} (h : ∃ t : Ad, Txt K mg t ∧ fa = t.f_law ∧ ∀ (s : Shared) (u : Value), BindsTo s t.d_law ⟨[u], []⟩ [("_law_script", u)]) :
    ∃ fd : FuncData, (∀ (s : Shared) (u : Value), BindsTo s fd ⟨[u], []⟩ [("_law_script", u)]) ∧ ∀ base : Heap, K.In base → base.Ns mainGlobals mg → FnOk P w K mg base CX0 7 fa fd ["_law_script"] (sp_law K) := by
  obtain ⟨t, T, rfl, hb⟩ := h
  exact ⟨_, hb, fun base _ _ => ok_law T⟩
theorem walk {l : PySem.W.OpenLaw} {q : Program} {loose : List Str} {XP : (Str → Option Value) → Heap → Prop} {YP : World → Heap → Prop} {d : DefRec} {K : Params → PySem.W.Frag} (hn : l.most = some 63) (hdf : d.params.defaults = [])
    (hY : ∀ (w : World) (h : Heap), YP w h → (K w.params).In h)
    (F : ∀ (w : World) (mg : Str → Option Value) (fa : Addr) (h : Heap), (K w.params).In h → h.Ns mainGlobals mg → mg d.name = some (.ref fa) →
      ∃ fd : FuncData, (∀ (s : Shared) (u : Value), BindsTo s fd ⟨[u], []⟩ [("_law_script", u)]) ∧ ∀ base : Heap, (K w.params).In base → base.Ns mainGlobals mg → FnOk l.prog w (K w.params) mg base CX0 7 fa fd ["_law_script"] (sp_law (K w.params))) :
    PySem.W.WalkO q loose XP YP l.row.toRowW d [] (fun f vs => PySem.call f vs) :=
  L2.walk_of (n := 63) (k := 7) (x := "_law_script") (CX := fun _ => CX0) (sp := fun w => sp_law (K w.params)) hn (by decide) hdf ⟨rfl, by decide, by decide⟩ hY F (fun _ _ a ns hl _ hS => ⟨a, ns, rfl, hS, hl, fun _ => rfl⟩) fun _ _ _ _ _ z => z
end K41
open PySem PySem.W PyProof.Rows
set_option maxRecDepth 100000 in
set_option maxHeartbeats 0 in
theorem PySem.Challenge.cw_quiltyard_k41_too_many_marks_holds : PySem.Challenge.rw_quiltyard_k41_too_many_marks.Holds := by
  w_on; o_law; k_head; (case hw => w_witness2)
  k_fill
  refine K41.walk (l := PySem.Challenge.rw_quiltyard_k41_too_many_marks) rfl rfl (fun w h Y => PySem.W.kIn_of Y) ?F
  case F =>
    intro w mg fa h KX G hmg
    refine K41.all_of ?T
    case T =>
      refine' K41.txt_mk KX G hmg ?a_are_letters ?l_are_letters ?c_are_letters ?k_are_letters ?a_are_fields ?l_are_fields ?c_are_fields ?k_are_fields ?a_rises ?l_rises ?c_rises ?k_rises ?a_is_system ?l_is_system ?c_is_system ?k_is_system ?a_look_system ?l_look_system ?c_look_system ?k_look_system ?a_mirrored_tiles ?l_mirrored_tiles ?c_mirrored_tiles ?k_mirrored_tiles ?a_look_together ?l_look_together ?c_look_together ?k_look_together ?a_look_both ?l_look_both ?c_look_both ?k_look_both ?a_each_once ?l_each_once ?c_each_once ?k_each_once ?a_moved_field ?l_moved_field ?c_moved_field ?k_moved_field ?a_moved_tiles ?l_moved_tiles ?c_moved_tiles ?k_moved_tiles ?a_stood_tiles ?l_stood_tiles ?c_stood_tiles ?k_stood_tiles ?a_either ?l_either ?c_either ?k_either ?a_pairs_of_marks ?l_pairs_of_marks ?c_pairs_of_marks ?k_pairs_of_marks ?a_face_of ?l_face_of ?c_face_of ?k_face_of ?a_tiles_by_face ?l_tiles_by_face ?c_tiles_by_face ?k_tiles_by_face ?a_paired_tiles ?l_paired_tiles ?c_paired_tiles ?k_paired_tiles ?a_meeting ?l_meeting ?c_meeting ?k_meeting ?a_left_of ?l_left_of ?c_left_of ?k_left_of ?a_right_of ?l_right_of ?c_right_of ?k_right_of ?a_is_seam ?l_is_seam ?c_is_seam ?k_is_seam ?a_seam_tiles ?l_seam_tiles ?c_seam_tiles ?k_seam_tiles ?a_beside_tiles ?l_beside_tiles ?c_beside_tiles ?k_beside_tiles ?a_beside_of ?l_beside_of ?c_beside_of ?k_beside_of ?a_over_of ?l_over_of ?c_over_of ?k_over_of ?a_mirrored_of ?l_mirrored_of ?c_mirrored_of ?k_mirrored_of ?a_stood_system ?l_stood_system ?c_stood_system ?k_stood_system ?a__law_cell ?l__law_cell ?c__law_cell ?k__law_cell ?a__law_mix ?l__law_mix ?c__law_mix ?k__law_mix ?a__law_refusal ?l__law_refusal ?c__law_refusal ?k__law_refusal ?a__law_told ?l__law_told ?c__law_told ?k__law_told ?a_law ?l_law ?c_law ?k_law ?a_LETTERS ?a_BORDER ?a_MOST_MARKS ?a_TILE_FIELDS ?a_EDGE ?l_EDGE ?a_QuiltError ?a_BadPicture ?a_BadSize ?a_BadSystem ?a_BadText ?a_Unlike ?e_BadSystem ?g1_BadSystem ?g2_BadSystem ?g3_BadSystem ?g4_BadSystem ?g5_BadSystem ?kk_BadSystem_BadPicture ?kk_BadSystem_BadSize ?kk_BadSystem_BadSystem ?kk_BadSystem_BadText ?kk_BadSystem_Unlike ?kk_BadSystem_ValueError ?hh_BadSystem_QuiltError ?z_len ?z_all ?z_range ?z_zip ?z_isinstance ?z_max ?z_min ?z_tuple ?z_sorted ?z_dict ?z_enumerate ?z_ValueError
      (case a_are_letters => k_is)
      (case l_are_letters => k_is)
      (case c_are_letters => k_is)
      (case k_are_letters => k_is)
      (case a_are_fields => k_is)
      (case l_are_fields => k_is)
      (case c_are_fields => k_is)
      (case k_are_fields => k_is)
      (case a_rises => k_is)
      (case l_rises => k_is)
      (case c_rises => k_is)
      (case k_rises => k_is)
      (case a_is_system => k_is)
      (case l_is_system => k_is)
      (case c_is_system => k_is)
      (case k_is_system => k_is)
      (case a_look_system => k_is)
      (case l_look_system => k_is)
      (case c_look_system => k_is)
      (case k_look_system => k_is)
      (case a_mirrored_tiles => k_is)
      (case l_mirrored_tiles => k_is)
      (case c_mirrored_tiles => k_is)
      (case k_mirrored_tiles => k_is)
      (case a_look_together => k_is)
      (case l_look_together => k_is)
      (case c_look_together => k_is)
      (case k_look_together => k_is)
      (case a_look_both => k_is)
      (case l_look_both => k_is)
      (case c_look_both => k_is)
      (case k_look_both => k_is)
      (case a_each_once => k_is)
      (case l_each_once => k_is)
      (case c_each_once => k_is)
      (case k_each_once => k_is)
      (case a_moved_field => k_is)
      (case l_moved_field => k_is)
      (case c_moved_field => k_is)
      (case k_moved_field => k_is)
      (case a_moved_tiles => k_is)
      (case l_moved_tiles => k_is)
      (case c_moved_tiles => k_is)
      (case k_moved_tiles => k_is)
      (case a_stood_tiles => k_is)
      (case l_stood_tiles => k_is)
      (case c_stood_tiles => k_is)
      (case k_stood_tiles => k_is)
      (case a_either => k_is)
      (case l_either => k_is)
      (case c_either => k_is)
      (case k_either => k_is)
      (case a_pairs_of_marks => k_is)
      (case l_pairs_of_marks => k_is)
      (case c_pairs_of_marks => k_is)
      (case k_pairs_of_marks => k_is)
      (case a_face_of => k_is)
      (case l_face_of => k_is)
      (case c_face_of => k_is)
      (case k_face_of => k_is)
      (case a_tiles_by_face => k_is)
      (case l_tiles_by_face => k_is)
      (case c_tiles_by_face => k_is)
      (case k_tiles_by_face => k_is)
      (case a_paired_tiles => k_is)
      (case l_paired_tiles => k_is)
      (case c_paired_tiles => k_is)
      (case k_paired_tiles => k_is)
      (case a_meeting => k_is)
      (case l_meeting => k_is)
      (case c_meeting => k_is)
      (case k_meeting => k_is)
      (case a_left_of => k_is)
      (case l_left_of => k_is)
      (case c_left_of => k_is)
      (case k_left_of => k_is)
      (case a_right_of => k_is)
      (case l_right_of => k_is)
      (case c_right_of => k_is)
      (case k_right_of => k_is)
      (case a_is_seam => k_is)
      (case l_is_seam => k_is)
      (case c_is_seam => k_is)
      (case k_is_seam => k_is)
      (case a_seam_tiles => k_is)
      (case l_seam_tiles => k_is)
      (case c_seam_tiles => k_is)
      (case k_seam_tiles => k_is)
      (case a_beside_tiles => k_is)
      (case l_beside_tiles => k_is)
      (case c_beside_tiles => k_is)
      (case k_beside_tiles => k_is)
      (case a_beside_of => k_is)
      (case l_beside_of => k_is)
      (case c_beside_of => k_is)
      (case k_beside_of => k_is)
      (case a_over_of => k_is)
      (case l_over_of => k_is)
      (case c_over_of => k_is)
      (case k_over_of => k_is)
      (case a_mirrored_of => k_is)
      (case l_mirrored_of => k_is)
      (case c_mirrored_of => k_is)
      (case k_mirrored_of => k_is)
      (case a_stood_system => k_is)
      (case l_stood_system => k_is)
      (case c_stood_system => k_is)
      (case k_stood_system => k_is)
      (case a__law_cell => k_is)
      (case l__law_cell => k_is)
      (case c__law_cell => k_is)
      (case k__law_cell => k_is)
      (case a__law_mix => k_is)
      (case l__law_mix => k_is)
      (case c__law_mix => k_is)
      (case k__law_mix => k_is)
      (case a__law_refusal => k_is)
      (case l__law_refusal => k_is)
      (case c__law_refusal => k_is)
      (case k__law_refusal => k_is)
      (case a__law_told => k_is)
      (case l__law_told => k_is)
      (case c__law_told => k_is)
      (case k__law_told => k_is)
      (case a_law => k_is)
      (case l_law => k_is)
      (case c_law => k_is)
      (case k_law => k_is)
      (case a_LETTERS => k_is)
      (case a_BORDER => k_is)
      (case a_MOST_MARKS => k_is)
      (case a_TILE_FIELDS => k_is)
      (case a_EDGE => k_is)
      (case l_EDGE => k_is)
      (case a_QuiltError => k_is)
      (case a_BadPicture => k_is)
      (case a_BadSize => k_is)
      (case a_BadSystem => k_is)
      (case a_BadText => k_is)
      (case a_Unlike => k_is)
      (case e_BadSystem => first | rfl | kernel_rfl)
      (case g1_BadSystem => k_is)
      (case g2_BadSystem => k_is)
      (case g3_BadSystem => k_is)
      (case g4_BadSystem => k_is)
      (case g5_BadSystem => k_is)
      (case kk_BadSystem_BadPicture => kit_is)
      (case kk_BadSystem_BadSize => kit_is)
      (case kk_BadSystem_BadSystem => kit_is)
      (case kk_BadSystem_BadText => kit_is)
      (case kk_BadSystem_Unlike => kit_is)
      (case kk_BadSystem_ValueError => kit_is)
      (case hh_BadSystem_QuiltError => kts_exm)
      (case z_len => k_is)
      (case z_all => k_is)
      (case z_range => k_is)
      (case z_zip => k_is)
      (case z_isinstance => k_is)
      (case z_max => k_is)
      (case z_min => k_is)
      (case z_tuple => k_is)
      (case z_sorted => k_is)
      (case z_dict => k_is)
      (case z_enumerate => k_is)
      (case z_ValueError => k_is)
