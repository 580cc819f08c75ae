import PyProof.Rows.All
import Wide.All
import OpenK.AllK
import Wide.FinOn
import PySem.SetTable
import PyProof.TupleKey
import PyProof.SetKind
import PyProof.IsRules
import PyProof.SetRoads
import PyProof.Rows.SetFrom
import PyProof.CollectWalk
import PyProof.DictWalks
import KE.KSortTup
import Lean
import PyProof.EqAt
import PyProof.EqKinds
import PyProof.TupleCall
import PyProof.Rows.StrLen
import PyProof.Rows.StrStep
import KE.KTryMore
import PyProof.NeKinds
import PyProof.NeData
import PyProof.AttrMissHeap
import PyProof.DictRoadsH
import PyProof.Rows.TupTab
import KE.KDictOf
import PyProof.StrOps2
import PySem.Challenge.RW_quiltyard_k02_systems
set_option Elab.async false
set_option linter.all false
set_option maxRecDepth 100000

namespace TB
open PySem PySem.SetTable

def Rise (xs : Array Nat) : Prop := ∀ a b, a < b → b < xs.size → xs.getD a 0 < xs.getD b 0
theorem getD_lt {xs : Array Nat} {k : Nat} (h : k < xs.size) (d e : Nat) : xs.getD k d = xs.getD k e := by simp [Array.getD, h]
/-- b parts xs at j -/
def Parts (xs : Array Nat) (j b : Nat) : Prop := b ≤ xs.size ∧ (∀ k, k < b → xs.getD k 0 < j) ∧ (∀ k, b ≤ k → k < xs.size → j ≤ xs.getD k 0)
theorem go_eq (xs : Array Nat) (j fuel lo hi : Nat) : below.go xs j (fuel + 1) lo hi = if lo < hi then (if xs.getD ((lo + hi) / 2) j < j then below.go xs j fuel ((lo + hi) / 2 + 1) hi else below.go xs j fuel lo ((lo + hi) / 2)) else lo := rfl
theorem go_spec {xs : Array Nat} {j : Nat} : ∀ (fuel lo hi : Nat), lo ≤ hi → hi ≤ xs.size → hi - lo ≤ fuel → Rise xs → (∀ k, k < lo → xs.getD k 0 < j) → (∀ k, hi ≤ k → k < xs.size → j ≤ xs.getD k 0) → Parts xs j (below.go xs j fuel lo hi)
  | 0, lo, hi, h1, h2, h3, _, hl, hh => ⟨show lo ≤ _ by omega, hl, fun k hk => hh k (by have : lo ≤ k := hk; omega)⟩
  | fuel + 1, lo, hi, h1, h2, h3, hr, hl, hh => by
    rw [go_eq]
    by_cases c : lo < hi
    · rw [if_pos c]
      have hm : (lo + hi) / 2 < xs.size := by omega
      rw [getD_lt hm j 0]
      by_cases c2 : xs.getD ((lo + hi) / 2) 0 < j
      · rw [if_pos c2]
        refine go_spec fuel _ _ (by omega) h2 (by omega) hr (fun k hk => ?_) hh
        by_cases e : k = (lo + hi) / 2
        · rw [e]; exact c2
        · have := hr k ((lo + hi) / 2) (by omega) hm
          omega
      · rw [if_neg c2]
        refine go_spec fuel _ _ (by omega) (by omega) (by omega) hr hl fun k hk hk2 => ?_
        by_cases e : k = (lo + hi) / 2
        · rw [e]; omega
        · have := hr ((lo + hi) / 2) k (by omega) hk2
          omega
    · rw [if_neg c]
      exact ⟨by omega, hl, fun k hk => hh k (by omega)⟩
theorem below_spec {xs : Array Nat} (hr : Rise xs) (j : Nat) : Parts xs j (below xs j) :=
  go_spec _ _ _ (Nat.zero_le _) (Nat.le_refl _) (by omega) hr (fun k hk => absurd hk (by omega)) fun k hk hk2 => absurd hk2 (by omega)
theorem get_of_below {xs : Array Nat} (hr : Rise xs) {j k : Nat} (h : xs[k]? = some j) : below xs j = k := by
  obtain ⟨h1, h2, h3⟩ := below_spec hr j
  have hk : k < xs.size := by
    rcases Nat.lt_or_ge k xs.size with q | q
    · exact q
    · rw [Array.getElem?_eq_none q] at h; cases h
  have e : xs.getD k 0 = j := by
    rw [Array.getElem?_eq_getElem hk] at h
    simp [Array.getD, hk]
    exact Option.some.inj h
  rcases Nat.lt_trichotomy (below xs j) k with q | q | q
  · have a1 := h3 (below xs j) (Nat.le_refl _) (by omega)
    have a2 := hr _ k q hk
    omega
  · exact q
  · have := h2 k q
    omega

structure Plain (t : SetTable) : Prop where
  rise : Rise t.place
  dum : t.dummies = #[]
theorem has_nil (j : Nat) : has #[] j = false := by
  unfold has
  simp
theorem slot_live {t : SetTable} (h : Plain t) {j k : Nat} (e : t.place[k]? = some j) : t.slot j = .live k := by
  unfold slot
  rw [get_of_below h.rise e]
  simp [e]
theorem slot_empty {t : SetTable} (h : Plain t) {j : Nat} (e : j ∉ t.place.toList) : t.slot j = .empty := by
  unfold slot
  have q : ¬ t.place[below t.place j]? = some j := fun z => e (by
    have := Array.mem_of_getElem? z
    exact Array.mem_toList_iff.mpr this)
  have q' : (t.place[below t.place j]? == some j) = false := by simpa using q
  dsimp only
  rw [q', h.dum, has_nil]
  rfl

def adv (m : Nat) (p : Probe) : Probe :=
  if p.more > 0 then { p with j := p.j + 1, more := p.more - 1 } else
  { p with j := (leap m p.i p.perturb).1, more := runEnd m (leap m p.i p.perturb).1 - (leap m p.i p.perturb).1, i := (leap m p.i p.perturb).1, perturb := (leap m p.i p.perturb).2 }
theorem advance_eq (t : SetTable) (p : Probe) : t.advance p = adv t.mask p := rfl
def at0 (m i perturb : Nat) : Probe := { j := i, more := runEnd m i - i, i := i, perturb := perturb, dummy := none }
def pr (m : Nat) (h : Int) : Nat → Probe
  | 0 => at0 m (bits h % (m + 1)) (bits h)
  | n + 1 => adv m (pr m h n)
theorem pr_dummy (m : Nat) (h : Int) : ∀ n, (pr m h n).dummy = none
  | 0 => rfl
  | n + 1 => by
    show (adv m (pr m h n)).dummy = none
    unfold adv
    split
    · exact pr_dummy m h n
    · exact pr_dummy m h n
/-- leaps -/
def lp (m : Nat) (h : Int) : Nat → Nat × Nat
  | 0 => (bits h % (m + 1), bits h)
  | l + 1 => leap m (lp m h l).1 (lp m h l).2
theorem run_at (m i p : Nat) : ∀ k, k ≤ runEnd m i - i → ∀ (f : Nat → Probe), (∀ n, f (n + 1) = adv m (f n)) → ∀ n, f n = at0 m i p → f (n + k) = { j := i + k, more := runEnd m i - i - k, i := i, perturb := p, dummy := none }
  | 0, _, f, hf, n, e => by rw [Nat.add_zero, e]; rfl
  | k + 1, hk, f, hf, n, e => by
    have ih := run_at m i p k (by omega) f hf n e
    rw [show n + (k + 1) = (n + k) + 1 by omega, hf, ih]
    unfold adv
    rw [if_pos (by show runEnd m i - i - k > 0; omega)]
    show ({ j := i + k + 1, more := runEnd m i - i - k - 1, i := i, perturb := p, dummy := none } : Probe) = _
    congr 1
theorem run_le (m i : Nat) : runEnd m i - i ≤ 9 := by
  unfold runEnd
  split <;> omega
theorem pr_leap (m : Nat) (h : Int) : ∀ l, ∃ n, n ≤ 10 * l ∧ pr m h n = at0 m (lp m h l).1 (lp m h l).2
  | 0 => ⟨0, Nat.le_refl _, rfl⟩
  | l + 1 => by
    obtain ⟨n, hn, e⟩ := pr_leap m h l
    have hr := run_le m (lp m h l).1
    have r := run_at m _ _ (runEnd m (lp m h l).1 - (lp m h l).1) (Nat.le_refl _) (pr m h) (fun _ => rfl) n e
    refine ⟨n + (runEnd m (lp m h l).1 - (lp m h l).1) + 1, by omega, ?_⟩
    show adv m (pr m h (n + (runEnd m (lp m h l).1 - (lp m h l).1))) = _
    rw [r]
    unfold adv
    rw [if_neg (by show ¬ runEnd m (lp m h l).1 - (lp m h l).1 - (runEnd m (lp m h l).1 - (lp m h l).1) > 0; omega)]
    rfl
theorem bits_lt (h : Int) : bits h < 2 ^ 64 := by
  unfold bits
  have h1 := Int.emod_nonneg h (show (2 ^ 64 : Int) ≠ 0 by decide)
  have h2 := Int.emod_lt_of_pos h (show (0 : Int) < 2 ^ 64 by decide)
  omega
theorem lp_perturb (m : Nat) (h : Int) : ∀ l, (lp m h l).2 = bits h / 32 ^ l
  | 0 => by simp [lp]
  | l + 1 => by
    show (lp m h l).2 / 32 = _
    rw [lp_perturb m h l, Nat.div_div_eq_div_mul, Nat.pow_succ]
theorem lp_zero (m : Nat) (h : Int) {l : Nat} (hl : 13 ≤ l) : (lp m h l).2 = 0 := by
  rw [lp_perturb]
  refine Nat.div_eq_of_lt (Nat.lt_of_lt_of_le (bits_lt h) ?_)
  have : (32 : Nat) ^ 13 ≤ 32 ^ l := Nat.pow_le_pow_right (by decide) hl
  exact Nat.le_trans (by decide) this
theorem lp_lt (m : Nat) (h : Int) : ∀ l, (lp m h l).1 < m + 1
  | 0 => Nat.mod_lt _ (by omega)
  | l + 1 => Nat.mod_lt _ (by omega)
/-- the leap once the perturbation is gone -/
def f0 (m i : Nat) : Nat := (i * 5 + 1) % (m + 1)
def it (m : Nat) : Nat → Nat → Nat
  | 0, i => i
  | k + 1, i => it m k (f0 m i)
theorem it_add (m : Nat) : ∀ (a b i : Nat), it m (a + b) i = it m b (it m a i)
  | 0, b, i => by rw [Nat.zero_add]; rfl
  | a + 1, b, i => by
    rw [show a + 1 + b = (a + b) + 1 by omega]
    show it m (a + b) (f0 m i) = it m b (it m a (f0 m i))
    exact it_add m a b _
theorem lp_it (m : Nat) (h : Int) {l : Nat} (hl : 13 ≤ l) : ∀ k, (lp m h (l + k)).1 = it m k (lp m h l).1
  | 0 => rfl
  | k + 1 => by
    have : it m (k + 1) (lp m h l).1 = f0 m (it m k (lp m h l).1) := by rw [it_add m k 1]; rfl
    rw [this, ← lp_it m h hl k]
    show (leap m (lp m h (l + k)).1 (lp m h (l + k)).2).1 = _
    unfold leap f0
    rw [lp_zero m h (show 13 ≤ l + k by omega)]
def orb (m : Nat) : Nat → Nat → List Nat
  | 0, _ => []
  | k + 1, i => i :: orb m k (f0 m i)
theorem orb_at (m : Nat) : ∀ (k i a x : Nat), (orb m k i)[a]? = some x → a < k ∧ it m a i = x
  | 0, i, a, x, h => by simp [orb] at h
  | k + 1, i, 0, x, h => by
    unfold orb at h
    simp at h
    exact ⟨by omega, h⟩
  | k + 1, i, a + 1, x, h => by
    unfold orb at h
    simp at h
    obtain ⟨h1, h2⟩ := orb_at m k _ a x h
    exact ⟨by omega, h2⟩
/-- a mask whose whole table is walked -/
def Whole (m : Nat) : Prop := ((List.range (m + 1)).all fun i => (orb m (m + 1) 0).contains i) = true ∧ it m (m + 1) 0 = 0
theorem whole7 : Whole 7 := by constructor <;> decide +kernel
theorem whole31 : Whole 31 := by constructor <;> decide +kernel
theorem whole127 : Whole 127 := by constructor <;> decide +kernel
theorem Whole.pos {m : Nat} (w : Whole m) {i : Nat} (hi : i < m + 1) : ∃ a, a < m + 1 ∧ it m a 0 = i := by
  have := List.all_eq_true.mp w.1 i (List.mem_range.mpr hi)
  obtain ⟨a, ha⟩ := List.mem_iff_getElem?.mp (List.contains_iff_mem.mp this)
  exact ⟨a, orb_at m _ _ a i ha⟩
theorem Whole.go {m : Nat} (w : Whole m) {i j : Nat} (hi : i < m + 1) (hj : j < m + 1) : ∃ k, k ≤ m ∧ it m k i = j := by
  obtain ⟨a, ha, ea⟩ := w.pos hi
  obtain ⟨b, hb, eb⟩ := w.pos hj
  by_cases c : a ≤ b
  · refine ⟨b - a, by omega, ?_⟩
    rw [← ea, ← it_add, show a + (b - a) = b by omega]
    exact eb
  · refine ⟨b + (m + 1) - a, by omega, ?_⟩
    rw [← ea, ← it_add, show a + (b + (m + 1) - a) = (m + 1) + b by omega, it_add, w.2]
    exact eb
theorem Whole.leap {m : Nat} (w : Whole m) (h : Int) {j : Nat} (hj : j < m + 1) : ∃ l, l ≤ m + 13 ∧ (lp m h l).1 = j := by
  obtain ⟨k, hk, e⟩ := w.go (lp_lt m h 13) hj
  exact ⟨13 + k, by omega, by rw [lp_it m h (Nat.le_refl 13), e]⟩
theorem Whole.cover {m : Nat} (w : Whole m) (h : Int) {j : Nat} (hj : j < m + 1) : ∃ n, n < 10 * turns m ∧ (pr m h n).j = j := by
  obtain ⟨l, hl, e⟩ := w.leap h hj
  obtain ⟨n, hn, e2⟩ := pr_leap m h l
  refine ⟨n, by unfold turns; omega, ?_⟩
  rw [e2]
  exact e

theorem nodup_sub {α : Type} [DecidableEq α] : ∀ {l1 l2 : List α}, l1.Nodup → (∀ x ∈ l1, x ∈ l2) → l1.length ≤ l2.length
  | [], _, _, _ => Nat.zero_le _
  | x :: xs, l2, nd, h => by
    rw [List.nodup_cons] at nd
    have hx := h x List.mem_cons_self
    have := nodup_sub (l2 := l2.erase x) nd.2 fun y hy => (List.mem_erase_of_ne (fun (z : y = x) => nd.1 (z ▸ hy))).mpr (h y (List.mem_cons_of_mem _ hy))
    rw [List.length_erase_of_mem hx] at this
    have h1 : 0 < l2.length := List.length_pos_of_mem hx
    rw [List.length_cons]
    omega
def Reach (m : Nat) (occ : Nat → Prop) (h : Int) (j : Nat) : Prop := ∃ n, (pr m h n).j = j ∧ ∀ k, k < n → occ (pr m h k).j
theorem Reach.mono {m : Nat} {o o' : Nat → Prop} {h : Int} {j : Nat} (r : Reach m o h j) (s : ∀ k, o k → o' k) : Reach m o' h j := by
  obtain ⟨n, e, q⟩ := r
  exact ⟨n, e, fun k hk => s _ (q k hk)⟩
structure Hold (t : SetTable) (hs : List Int) : Prop where
  plain : Plain t
  whole : Whole t.mask
  size : t.place.toList.length = hs.length
  low : ∀ j ∈ t.place.toList, j ≤ t.mask
  room : hs.length ≤ t.mask
  reach : ∀ x ∈ t.place.toList.zip hs, Reach t.mask (· ∈ t.place.toList) x.2 x.1
theorem rise_iff {xs : Array Nat} : Rise xs ↔ xs.toList.Pairwise (· < ·) := by
  rw [List.pairwise_iff_getElem]
  constructor
  · intro h i j hi hj hij
    have := h i j hij (by simpa using hj)
    have hi' : i < xs.size := by simpa using hi
    have hj' : j < xs.size := by simpa using hj
    simpa [Array.getD, hi', hj'] using this
  · intro h a b hab hb
    have := h a b (by simpa using (show a < xs.size by omega)) (by simpa using hb) hab
    simpa [Array.getD, hb, show a < xs.size by omega] using this
theorem least {p : Nat → Prop} [DecidablePred p] : ∀ n, p n → ∃ k, k ≤ n ∧ p k ∧ ∀ i, i < k → ¬ p i := by
  intro n
  induction n using Nat.strongRecOn with
  | _ n ih =>
    intro h
    by_cases c : ∃ i, i < n ∧ p i
    · obtain ⟨i, hi, pi⟩ := c
      obtain ⟨k, hk, r⟩ := ih i hi pi
      exact ⟨k, by omega, r⟩
    · exact ⟨n, Nat.le_refl _, h, fun i hi pi => c ⟨i, hi, pi⟩⟩
theorem Hold.hole {t : SetTable} {hs : List Int} (H : Hold t hs) : ∃ j, j < t.mask + 1 ∧ j ∉ t.place.toList := by
  by_cases c : ∀ j, j < t.mask + 1 → j ∈ t.place.toList
  · have := nodup_sub (l1 := List.range (t.mask + 1)) List.nodup_range fun x hx => c x (List.mem_range.mp hx)
    rw [List.length_range, H.size] at this
    have := H.room
    omega
  · have ⟨j, hj⟩ := Classical.not_forall.mp c
    exact ⟨j, Classical.not_imp.mp hj⟩
/-- the first free place of a hash -/
theorem Hold.first {t : SetTable} {hs : List Int} (H : Hold t hs) (h : Int) : ∃ N, N < 10 * turns t.mask ∧ (pr t.mask h N).j ∉ t.place.toList ∧ ∀ k, k < N → (pr t.mask h k).j ∈ t.place.toList := by
  obtain ⟨j, hj, hn⟩ := H.hole
  obtain ⟨n, hlt, e⟩ := H.whole.cover h hj
  obtain ⟨k, hk, h1, h2⟩ := least (p := fun n => (pr t.mask h n).j ∉ t.place.toList) n (by rw [e]; exact hn)
  exact ⟨k, by omega, h1, fun i hi => Classical.not_not.mp (h2 i hi)⟩
theorem adv_j_le (m : Nat) (h : Int) (n : Nat) : (pr m h n).j ≤ m ∧ (pr m h n).j + (pr m h n).more ≤ m := by
  induction n with
  | zero =>
    show bits h % (m + 1) ≤ m ∧ bits h % (m + 1) + (runEnd m (bits h % (m + 1)) - bits h % (m + 1)) ≤ m
    have := Nat.mod_lt (bits h) (show 0 < m + 1 by omega)
    unfold runEnd
    split <;> omega
  | succ n ih =>
    show (adv m (pr m h n)).j ≤ m ∧ (adv m (pr m h n)).j + (adv m (pr m h n)).more ≤ m
    unfold adv
    split
    · rename_i c
      show (pr m h n).j + 1 ≤ m ∧ (pr m h n).j + 1 + ((pr m h n).more - 1) ≤ m
      omega
    · show (leap m (pr m h n).i (pr m h n).perturb).1 ≤ m ∧ (leap m (pr m h n).i (pr m h n).perturb).1 + (runEnd m (leap m (pr m h n).i (pr m h n).perturb).1 - (leap m (pr m h n).i (pr m h n).perturb).1) ≤ m
      have : (leap m (pr m h n).i (pr m h n).perturb).1 < m + 1 := Nat.mod_lt _ (by omega)
      generalize (leap m (pr m h n).i (pr m h n).perturb).1 = i at *
      unfold runEnd
      split <;> omega

theorem probe_go_eq (t : SetTable) (hashAt : Nat → Int) (h : Int) (fuel : Nat) (p : Probe) : probe.go t hashAt h (fuel + 1) p = (match t.slot p.j with
    | .empty => some (.empty p.j p.dummy)
    | .dummy => probe.go t hashAt h fuel (t.advance { p with dummy := some p.j })
    | .live i => if hashAt i == h then some (.candidate p.j i (t.advance p)) else probe.go t hashAt h fuel (t.advance p)) := rfl
theorem go_empty {t : SetTable} {hashAt : Nat → Int} {h : Int} : ∀ (n fuel a : Nat), n < fuel → (∀ k, k < n → ∃ i, t.slot (pr t.mask h (a + k)).j = .live i ∧ (hashAt i == h) = false) → t.slot (pr t.mask h (a + n)).j = .empty →
    probe.go t hashAt h fuel (pr t.mask h a) = some (.empty (pr t.mask h (a + n)).j none)
  | 0, fuel + 1, a, _, _, e => by
    rw [Nat.add_zero] at e ⊢
    rw [probe_go_eq, e, pr_dummy]
    rfl
  | n + 1, fuel + 1, a, hn, hl, e => by
    obtain ⟨i, e1, e2⟩ := hl 0 (by omega)
    rw [Nat.add_zero] at e1
    rw [probe_go_eq, e1]
    dsimp only
    rw [e2, if_neg (by decide), advance_eq]
    have := go_empty n fuel (a + 1) (by omega) (fun k hk => by
      have := hl (k + 1) (by omega)
      rwa [show a + (k + 1) = a + 1 + k by omega] at this) (by rwa [show a + (n + 1) = a + 1 + n by omega] at e)
    rw [show a + (n + 1) = a + 1 + n by omega]
    exact this
theorem go_cand {t : SetTable} {hashAt : Nat → Int} {h : Int} {i : Nat} : ∀ (n fuel a : Nat), n < fuel → (∀ k, k < n → ∃ i, t.slot (pr t.mask h (a + k)).j = .live i ∧ (hashAt i == h) = false) → t.slot (pr t.mask h (a + n)).j = .live i → (hashAt i == h) = true →
    probe.go t hashAt h fuel (pr t.mask h a) = some (.candidate (pr t.mask h (a + n)).j i (pr t.mask h (a + n + 1)))
  | 0, fuel + 1, a, _, _, e, e3 => by
    rw [Nat.add_zero] at e ⊢
    rw [probe_go_eq, e]
    dsimp only
    rw [e3, if_pos rfl, advance_eq]
    rfl
  | n + 1, fuel + 1, a, hn, hl, e, e3 => by
    obtain ⟨i', e1, e2⟩ := hl 0 (by omega)
    rw [Nat.add_zero] at e1
    rw [probe_go_eq, e1]
    dsimp only
    rw [e2, if_neg (by decide), advance_eq]
    have := go_cand n fuel (a + 1) (by omega) (fun k hk => by
      have := hl (k + 1) (by omega)
      rwa [show a + (k + 1) = a + 1 + k by omega] at this) (by rwa [show a + (n + 1) = a + 1 + n by omega] at e) e3
    rw [show a + (n + 1) = a + 1 + n by omega]
    exact this

theorem insertAt_list {α : Type} (xs : Array α) (p : Nat) (x : α) (h : p ≤ xs.size) : (insertAt xs p x).toList = xs.toList.take p ++ x :: xs.toList.drop p := by
  unfold insertAt
  simp
  rw [List.take_of_length_le (by simp)]
theorem zip_ins {α β : Type} (l1 : List α) (l2 : List β) (p : Nat) (x : α) (y : β) (h : l1.length = l2.length) : (l1.take p ++ x :: l1.drop p).zip (l2.take p ++ y :: l2.drop p) = (l1.zip l2).take p ++ (x, y) :: (l1.zip l2).drop p := by
  rw [List.zip_append (by simp [h]), List.zip_cons_cons]
  congr 1
  · simp [List.zip, List.take_zipWith]
  · congr 1
    simp [List.zip, List.drop_zipWith]
theorem mem_ins {α : Type} {l : List α} {p : Nat} {x y : α} : y ∈ l.take p ++ x :: l.drop p ↔ y = x ∨ y ∈ l := by
  rw [List.mem_append, List.mem_cons]
  constructor
  · rintro (h | h | h)
    · exact .inr (List.mem_of_mem_take h)
    · exact .inl h
    · exact .inr (List.mem_of_mem_drop h)
  · rintro (h | h)
    · exact .inr (.inl h)
    · rw [← List.take_append_drop p l, List.mem_append] at h
      rcases h with h | h
      · exact .inl h
      · exact .inr (.inr h)
theorem Hold.put {t : SetTable} {hs : List Int} (H : Hold t hs) {h : Int} {j : Nat} (hj : j ∉ t.place.toList) (hm : j ≤ t.mask) (hr : Reach t.mask (· ∈ t.place.toList) h j) (room : hs.length + 1 ≤ t.mask) :
    (t.put j).2 ≤ hs.length ∧ (t.put j).1.mask = t.mask ∧ (t.put j).1.place.size = hs.length + 1 ∧ (t.put j).1.dummies = #[] ∧ Hold (t.put j).1 (hs.take (t.put j).2 ++ h :: hs.drop (t.put j).2) := by
  obtain ⟨b1, b2, b3⟩ := below_spec H.plain.rise j
  have hsz : t.place.size = hs.length := by simpa using H.size
  have e2 : (t.put j).2 = below t.place j := rfl
  have hd : (t.put j).1.dummies = #[] := by
    show (if has t.dummies j = true then _ else t.dummies) = #[]
    rw [H.plain.dum, has_nil, if_neg (by decide)]
  have hpl : (t.put j).1.place.toList = t.place.toList.take (below t.place j) ++ j :: t.place.toList.drop (below t.place j) := insertAt_list _ _ _ b1
  have hlen : (t.put j).1.place.size = hs.length + 1 := by
    have : (t.put j).1.place.toList.length = hs.length + 1 := by
      rw [hpl, List.length_append, List.length_cons, List.length_take, List.length_drop, H.size]
      omega
    simpa using this
  rw [e2]
  refine ⟨by omega, rfl, hlen, hd, ⟨⟨?_, hd⟩, H.whole, ?_, ?_, ?_, ?_⟩⟩
  · rw [rise_iff, hpl, List.pairwise_append]
    have pw := rise_iff.mp H.plain.rise
    have tk : ∀ a ∈ t.place.toList.take (below t.place j), a < j := fun a ha => by
      obtain ⟨i, hi, e⟩ := List.mem_iff_getElem.mp ha
      rw [List.length_take] at hi
      have hi2 : i < t.place.size := by have := H.size; omega
      have := b2 i (by omega)
      simp [Array.getD, hi2] at this
      rw [← e]
      simpa using this
    have dr : ∀ a ∈ t.place.toList.drop (below t.place j), j < a := fun a ha => by
      obtain ⟨i, hi, e⟩ := List.mem_iff_getElem.mp ha
      rw [List.length_drop] at hi
      have hi2 : below t.place j + i < t.place.size := by have := H.size; omega
      have := b3 (below t.place j + i) (by omega) hi2
      simp [Array.getD, hi2] at this
      have ha' : a ∈ t.place.toList := List.mem_of_mem_drop ha
      have ne : j ≠ a := fun z => hj (z ▸ ha')
      have : j ≤ a := by rw [← e]; simpa using this
      omega
    refine ⟨pw.sublist (List.take_sublist _ _), List.pairwise_cons.mpr ⟨dr, pw.sublist (List.drop_sublist _ _)⟩, fun a ha b hb => ?_⟩
    rcases List.mem_cons.mp hb with rfl | hb
    · exact tk a ha
    · have := tk a ha
      have := dr b hb
      omega
  · rw [hpl]
    simp only [List.length_append, List.length_cons, List.length_take, List.length_drop]
    rw [H.size]
  · intro a ha
    rw [hpl, mem_ins] at ha
    rcases ha with rfl | ha
    · exact hm
    · exact H.low a ha
  · simp only [List.length_append, List.length_cons, List.length_take, List.length_drop]
    show _ ≤ t.mask
    omega
  · intro x hx
    rw [hpl, zip_ins _ _ _ _ _ H.size, mem_ins] at hx
    have mono : ∀ k, k ∈ t.place.toList → k ∈ (t.put j).1.place.toList := fun k hk => by rw [hpl, mem_ins]; exact .inr hk
    rcases hx with rfl | hx
    · exact hr.mono mono
    · exact (H.reach x hx).mono mono
end TB


namespace TB
open PySem PySem.SetTable

def Occ (owner : Array (Option Nat)) (x : Nat) : Prop := ∃ q, owner[x]? = some (some q)
theorem free_eq (m : Nat) (owner : Array (Option Nat)) (fuel i p : Nat) : layClean.free m owner (fuel + 1) i p = (match (List.range (runEnd m i + 1 - i)).find? fun k => (owner.getD (i + k) (some 0)).isNone with
    | some k => some (i + k)
    | none => layClean.free m owner fuel (leap m i p).1 (leap m i p).2) := rfl
theorem occ_of {owner : Array (Option Nat)} {x : Nat} (hx : x < owner.size) (h : (owner.getD x (some 0)).isNone = false) : Occ owner x := by
  simp only [Array.getD, hx, ↓reduceDIte] at h
  cases e : owner[x] with
  | none => simp [e] at h
  | some q => exact ⟨q, by rw [Array.getElem?_eq_getElem hx, e]⟩
theorem not_occ {owner : Array (Option Nat)} {x : Nat} (h : (owner.getD x (some 0)).isNone = true) : x < owner.size ∧ ¬ Occ owner x := by
  by_cases hx : x < owner.size
  · refine ⟨hx, fun ⟨q, e⟩ => ?_⟩
    rw [Array.getElem?_eq_getElem hx] at e
    simp only [Array.getD, hx, ↓reduceDIte] at h
    have e' : owner[x] = some q := Option.some.inj e
    simp [e'] at h
  · simp [Array.getD, hx] at h
/-- the first free place, by leaps -/
theorem free_spec {m : Nat} (w : Whole m) {owner : Array (Option Nat)} (hs : owner.size = m + 1) (h : Int) (hole : ∃ j, j < m + 1 ∧ ¬ Occ owner j) :
    ∀ (fuel l n : Nat), l + fuel = turns m → pr m h n = at0 m (lp m h l).1 (lp m h l).2 → (∀ k, k < n → Occ owner (pr m h k).j) → (∀ l', l' < l → Occ owner (lp m h l').1) →
      ∃ j, layClean.free m owner fuel (lp m h l).1 (lp m h l).2 = some j ∧ j < owner.size ∧ ¬ Occ owner j ∧ Reach m (Occ owner) h j
  | 0, l, n, hl, _, _, hocc => by
    obtain ⟨j, hj, hn⟩ := hole
    obtain ⟨l', hl', e⟩ := w.leap h hj
    unfold turns at hl
    exact absurd (e ▸ hocc l' (by omega)) hn
  | fuel + 1, l, n, hl, e, hn, hocc => by
    rw [free_eq]
    have hi := lp_lt m h l
    have hre : ∀ k, k < runEnd m (lp m h l).1 + 1 - (lp m h l).1 → (pr m h (n + k)).j = (lp m h l).1 + k := fun k hk => by
      rw [run_at m _ _ k (by omega) (pr m h) (fun _ => rfl) n e]
    have hle : ∀ k, k < runEnd m (lp m h l).1 + 1 - (lp m h l).1 → (lp m h l).1 + k < m + 1 := fun k hk => by
      have := (adv_j_le m h (n + k)).1
      rw [hre k hk] at this
      omega
    cases c : (List.range (runEnd m (lp m h l).1 + 1 - (lp m h l).1)).find? fun k => (owner.getD ((lp m h l).1 + k) (some 0)).isNone with
    | some k =>
      obtain ⟨a1, as, bs, a2, a3⟩ := List.find?_eq_some_iff_append.mp c
      have hk : k < runEnd m (lp m h l).1 + 1 - (lp m h l).1 := List.mem_range.mp (a2 ▸ List.mem_append_right _ List.mem_cons_self)
      have hlt : ∀ i, i < k → i ∈ as := fun i hik => by
        have hir : i ∈ List.range (runEnd m (lp m h l).1 + 1 - (lp m h l).1) := List.mem_range.mpr (by omega)
        have pw : (List.range (runEnd m (lp m h l).1 + 1 - (lp m h l).1)).Pairwise (· < ·) := List.pairwise_lt_range
        rw [a2] at hir pw
        rcases List.mem_append.mp hir with q | q
        · exact q
        · rcases List.mem_cons.mp q with q | q
          · omega
          · have := (List.pairwise_cons.mp (List.pairwise_append.mp pw).2.1).1 i q
            omega
      have no := not_occ a1
      refine ⟨(lp m h l).1 + k, rfl, no.1, no.2, n + k, hre k hk, fun i hik => ?_⟩
      by_cases ci : i < n
      · exact hn i ci
      · have e1 := hre (i - n) (by omega)
        rw [show n + (i - n) = i by omega] at e1
        rw [e1]
        have := a3 (i - n) (hlt _ (by omega))
        exact occ_of (by rw [hs]; exact hle _ (by omega)) (by simpa using this)
    | none =>
      have all := List.find?_eq_none.mp c
      have hr := run_at m _ _ (runEnd m (lp m h l).1 - (lp m h l).1) (Nat.le_refl _) (pr m h) (fun _ => rfl) n e
      have hige : (lp m h l).1 ≤ runEnd m (lp m h l).1 := by unfold runEnd; split <;> omega
      have occk : ∀ k, k < runEnd m (lp m h l).1 + 1 - (lp m h l).1 → Occ owner ((lp m h l).1 + k) := fun k hk => by
        have := all k (List.mem_range.mpr hk)
        exact occ_of (by rw [hs]; exact hle k hk) (Bool.eq_false_iff.mpr this)
      refine free_spec w hs h hole fuel (l + 1) (n + (runEnd m (lp m h l).1 - (lp m h l).1) + 1) (by omega) ?_ (fun k hk => ?_) fun l' hl' => ?_
      · show adv m (pr m h (n + (runEnd m (lp m h l).1 - (lp m h l).1))) = _
        rw [hr]
        unfold adv
        rw [if_neg (by show ¬ runEnd m (lp m h l).1 - (lp m h l).1 - (runEnd m (lp m h l).1 - (lp m h l).1) > 0; omega)]
        rfl
      · by_cases ck : k < n
        · exact hn k ck
        · have e1 := hre (k - n) (by omega)
          rw [show n + (k - n) = k by omega] at e1
          rw [e1]
          exact occk _ (by omega)
      · by_cases cl : l' < l
        · exact hocc l' cl
        · have : l' = l := by omega
          subst this
          have := occk 0 (by omega)
          simpa using this

structure Owns (m : Nat) (hs : List Int) (k : Nat) (owner : Array (Option Nat)) : Prop where
  size : owner.size = m + 1
  each : ∀ (q : Nat) (h : Int), q < k → hs[q]? = some h → ∃ j : Nat, owner[j]? = some (some q) ∧ Reach m (Occ owner) h j
  low : ∀ (j q : Nat), owner[j]? = some (some q) → q < k
  inj : ∀ (j j' q : Nat), owner[j]? = some (some q) → owner[j']? = some (some q) → j = j'
theorem Owns.start (m : Nat) (hs : List Int) : Owns m hs 0 (Array.replicate (m + 1) none) := by
  have no : ∀ (j q : Nat), (Array.replicate (m + 1) (none : Option Nat))[j]? = some (some q) → False := fun j q e => by
    rw [Array.getElem?_replicate] at e
    split at e <;> simp at e
  exact ⟨by simp, fun q h hq => absurd hq (by omega), fun j q e => (no j q e).elim, fun j j' q e => (no j q e).elim⟩
theorem Owns.hole {m : Nat} {hs : List Int} {k : Nat} {owner : Array (Option Nat)} (O : Owns m hs k owner) (hk : k ≤ m) : ∃ j, j < m + 1 ∧ ¬ Occ owner j := by
  by_cases c : ∀ j, j < m + 1 → Occ owner j
  · -- places with an owner: as many as there are owners
    have f : ∀ j, j < m + 1 → ∃ q, owner[j]? = some (some q) := c
    let g : Nat → Nat := fun j => ((owner[j]?).join).getD 0
    have hg : ∀ j, j < m + 1 → owner[j]? = some (some (g j)) := fun j hj => by
      obtain ⟨q, e⟩ := f j hj
      show _ = some (some (((owner[j]?).join).getD 0))
      rw [e]; rfl
    have nd : ((List.range (m + 1)).map g).Nodup := by
      rw [List.Nodup, List.pairwise_map]
      refine (List.nodup_range (n := m + 1)).imp_of_mem fun {a b} ha hb ne e => ne ?_
      exact O.inj a b (g a) (hg a (List.mem_range.mp ha)) (e ▸ hg b (List.mem_range.mp hb))
    have := nodup_sub (l2 := List.range k) nd fun x hx => by
      obtain ⟨j, hj, rfl⟩ := List.mem_map.mp hx
      exact List.mem_range.mpr (O.low j _ (hg j (List.mem_range.mp hj)))
    rw [List.length_map, List.length_range, List.length_range] at this
    omega
  · have ⟨j, hj⟩ := Classical.not_forall.mp c
    exact ⟨j, Classical.not_imp.mp hj⟩
theorem Owns.next {m : Nat} {hs : List Int} {k : Nat} {owner : Array (Option Nat)} (O : Owns m hs k owner) {h : Int} (hh : hs[k]? = some h) {j : Nat} (hj : j < owner.size) (hn : ¬ Occ owner j) (hr : Reach m (Occ owner) h j) :
    Owns m hs (k + 1) (owner.setIfInBounds j (some k)) := by
  have at_ : ∀ x, (owner.setIfInBounds j (some k))[x]? = if j = x then (if x < owner.size then some (some k) else none) else owner[x]? := fun x => by
    rw [Array.getElem?_setIfInBounds]
    by_cases c : j = x
    · subst c; simp [hj]
    · simp [c]
  have mono : ∀ x, Occ owner x → Occ (owner.setIfInBounds j (some k)) x := fun x ⟨q, e⟩ => by
    have ne : ¬ j = x := fun z => hn (z ▸ ⟨q, e⟩)
    exact ⟨q, by rw [at_, if_neg ne]; exact e⟩
  refine ⟨by simp [O.size], fun q h' hq hh' => ?_, fun x q e => ?_, fun x y q e1 e2 => ?_⟩
  · by_cases c : q = k
    · subst c
      rw [hh] at hh'
      cases hh'
      exact ⟨j, by rw [at_, if_pos rfl, if_pos hj], hr.mono mono⟩
    · obtain ⟨x, e, r⟩ := O.each q h' (by omega) hh'
      have ne : ¬ j = x := fun z => hn (z ▸ ⟨q, e⟩)
      exact ⟨x, by rw [at_, if_neg ne]; exact e, r.mono mono⟩
  · rw [at_] at e
    by_cases c : j = x
    · rw [if_pos c] at e
      split at e
      · cases e; omega
      · cases e
    · rw [if_neg c] at e
      have := O.low x q e
      omega
  · rw [at_] at e1 e2
    by_cases c1 : j = x
    · rw [if_pos c1] at e1
      split at e1
      · cases e1
        by_cases c2 : j = y
        · omega
        · rw [if_neg c2] at e2
          have := O.low y _ e2
          omega
      · cases e1
    · rw [if_neg c1] at e1
      by_cases c2 : j = y
      · rw [if_pos c2] at e2
        split at e2
        · cases e2
          have := O.low x _ e1
          omega
        · cases e2
      · rw [if_neg c2] at e2
        exact O.inj x y q e1 e2
def layStep (m : Nat) (acc : Option (Array (Option Nat) × Nat)) (h : Int) : Option (Array (Option Nat) × Nat) := do
  let (owner, k) ← acc
  let j ← layClean.free m owner (turns m) (bits h % (m + 1)) (bits h)
  pure (owner.setIfInBounds j (some k), k + 1)
theorem lay_fold {m : Nat} (w : Whole m) (hs : List Int) (hm : hs.length ≤ m) : ∀ (rest : List Int) (k : Nat) (owner : Array (Option Nat)), k ≤ hs.length → Owns m hs k owner → hs.drop k = rest →
    ∃ owner', rest.foldl (layStep m) (some (owner, k)) = some (owner', hs.length) ∧ Owns m hs hs.length owner'
  | [], k, owner, hk0, O, e => by
    have hk : hs.length ≤ k := by simpa using List.drop_eq_nil_iff.mp e
    have c : k = hs.length := by omega
    subst c
    exact ⟨owner, rfl, O⟩
  | h :: rest, k, owner, hk0, O, e => by
    have hk : k < hs.length := by
      rcases Nat.lt_or_ge k hs.length with q | q
      · exact q
      · rw [List.drop_eq_nil_of_le q] at e; cases e
    have hh : hs[k]? = some h := by
      have := List.getElem?_drop (xs := hs) (i := k) (j := 0)
      rw [e] at this
      simpa using this.symm
    obtain ⟨j, e1, hj, hn, hr⟩ := free_spec w O.size h (O.hole (by omega)) (turns m) 0 0 (by omega) rfl (fun k hk => absurd hk (by omega)) fun l hl => absurd hl (by omega)
    have e2 : layStep m (some (owner, k)) h = some (owner.setIfInBounds j (some k), k + 1) := by
      unfold layStep
      show (layClean.free m owner (turns m) (bits h % (m + 1)) (bits h)).bind _ = _
      have e1' : layClean.free m owner (turns m) (bits h % (m + 1)) (bits h) = some j := e1
      rw [e1']
      rfl
    rw [List.foldl_cons, e2]
    exact lay_fold w hs hm rest (k + 1) _ (by omega) (O.next hh hj hn hr) (by
      have := congrArg (List.drop 1) e
      rw [List.drop_drop] at this
      simpa using this)
theorem layClean_spec {m : Nat} (w : Whole m) (hs : List Int) (hm : hs.length ≤ m) : ∃ owner, layClean m hs.toArray = some owner ∧ Owns m hs hs.length owner := by
  obtain ⟨owner, e, O⟩ := lay_fold w hs hm hs 0 _ (Nat.zero_le _) (Owns.start m hs) rfl
  refine ⟨owner, ?_, O⟩
  unfold layClean
  rw [← Array.foldl_toList]
  show ((hs.foldl (layStep m) (some (Array.replicate (m + 1) none, 0))).map (·.1)) = _
  rw [e]
  rfl

def liveOf (m : Nat) (owner : Array (Option Nat)) : List (Nat × Nat) := (List.range (m + 1)).filterMap fun j => (owner.getD j none).map (j, ·)
theorem mem_live {m : Nat} {owner : Array (Option Nat)} (hs : owner.size = m + 1) {x : Nat × Nat} : x ∈ liveOf m owner ↔ owner[x.1]? = some (some x.2) := by
  unfold liveOf
  rw [List.mem_filterMap]
  constructor
  · rintro ⟨j, hj, e⟩
    have hj' : j < owner.size := by rw [hs]; exact List.mem_range.mp hj
    simp only [Array.getD, hj', ↓reduceDIte] at e
    cases c : owner[j] with
    | none => simp [c] at e
    | some q =>
      simp [c] at e
      rw [← e]
      show owner[j]? = _
      rw [Array.getElem?_eq_getElem hj', c]
  · intro e
    have hj : x.1 < owner.size := by
      rcases Nat.lt_or_ge x.1 owner.size with q | q
      · exact q
      · rw [Array.getElem?_eq_none q] at e; cases e
    refine ⟨x.1, List.mem_range.mpr (by omega), ?_⟩
    rw [Array.getElem?_eq_getElem hj] at e
    have e' := Option.some.inj e
    simp [Array.getD, hj, e']
theorem live_rise (m : Nat) (owner : Array (Option Nat)) : ((liveOf m owner).map (·.1)).Pairwise (· < ·) := by
  unfold liveOf
  rw [List.pairwise_map]
  refine List.Pairwise.filterMap _ ?_ (List.pairwise_lt_range (n := m + 1))
  intro a b hab x hx y hy
  simp only [Option.map_eq_some_iff] at hx hy
  obtain ⟨_, _, rfl⟩ := hx
  obtain ⟨_, _, rfl⟩ := hy
  exact hab
theorem live_snd_nodup {m : Nat} {hs : List Int} {k : Nat} {owner : Array (Option Nat)} (O : Owns m hs k owner) : ((liveOf m owner).map (·.2)).Nodup := by
  rw [List.Nodup, List.pairwise_map]
  have := live_rise m owner
  rw [List.pairwise_map] at this
  refine this.imp_of_mem fun {a b} ha hb hlt e => ?_
  have h1 := (mem_live O.size).mp ha
  have h2 := (mem_live O.size).mp hb
  rw [e] at h1
  have := O.inj _ _ _ h1 h2
  omega
theorem live_len {m : Nat} {hs : List Int} {owner : Array (Option Nat)} (O : Owns m hs hs.length owner) : (liveOf m owner).length = hs.length := by
  have h1 := nodup_sub (l2 := List.range hs.length) (live_snd_nodup O) fun x hx => by
    obtain ⟨y, hy, rfl⟩ := List.mem_map.mp hx
    exact List.mem_range.mpr (O.low _ _ ((mem_live O.size).mp hy))
  have h2 := nodup_sub (l1 := List.range hs.length) (l2 := (liveOf m owner).map (·.2)) List.nodup_range fun x hx => by
    have hx := List.mem_range.mp hx
    obtain ⟨j, e, _⟩ := O.each x hs[x] hx (List.getElem?_eq_getElem hx)
    exact List.mem_map.mpr ⟨(j, x), (mem_live O.size).mpr e, rfl⟩
  rw [List.length_map, List.length_range] at h1 h2
  omega
/-- the new order is one of all entries -/
theorem laid_spec {m : Nat} (w : Whole m) (finger moves : Nat) (led plain : Bool) (hs : List Int) (hm : hs.length ≤ m) :
    ∃ t order, laid m finger moves led plain hs.toArray = some (t, order) ∧ t.mask = m ∧ t.led = led ∧ t.plain = plain ∧ t.dummies = #[] ∧ order.toList.length = hs.length ∧ order.toList.Nodup ∧ (∀ q ∈ order.toList, q < hs.length) ∧
      Hold t (order.toList.map fun q => hs.getD q 0) := by
  obtain ⟨owner, e, O⟩ := layClean_spec w hs hm
  refine ⟨{ mask := m, place := ((liveOf m owner).map (·.1)).toArray, dummies := #[], finger, led, moves, plain }, ((liveOf m owner).map (·.2)).toArray, ?_, rfl, rfl, rfl, rfl, ?_, live_snd_nodup O, ?_, ?_⟩
  · unfold laid
    rw [e]
    rfl
  · show ((liveOf m owner).map (·.2)).length = _
    rw [List.length_map, live_len O]
  · intro q hq
    obtain ⟨y, hy, rfl⟩ := List.mem_map.mp (show q ∈ (liveOf m owner).map (·.2) from hq)
    exact O.low _ _ ((mem_live O.size).mp hy)
  · have occ : ∀ x, Occ owner x → x ∈ (liveOf m owner).map (·.1) := fun x ⟨q, e⟩ => List.mem_map.mpr ⟨(x, q), (mem_live O.size).mpr e, rfl⟩
    refine ⟨⟨rise_iff.mpr (live_rise m owner), rfl⟩, w, ?_, ?_, ?_, ?_⟩
    · show ((liveOf m owner).map (·.1)).length = ((((liveOf m owner).map (·.2))).map _).length
      simp
    · intro j hj
      obtain ⟨y, hy, rfl⟩ := List.mem_map.mp (show j ∈ (liveOf m owner).map (·.1) from hj)
      have := (mem_live O.size).mp hy
      have hlt : y.1 < owner.size := by
        rcases Nat.lt_or_ge y.1 owner.size with q | q
        · exact q
        · rw [Array.getElem?_eq_none q] at this; cases this
      show y.1 ≤ m
      have := O.size
      omega
    · show ((((liveOf m owner).map (·.2))).map _).length ≤ m
      rw [List.length_map, List.length_map, live_len O]
      exact hm
    · intro x hx
      have hx' : x ∈ ((liveOf m owner).map (·.1)).zip (((liveOf m owner).map (·.2)).map fun q => hs.getD q 0) := hx
      rw [List.map_map, List.zip_map'] at hx'
      obtain ⟨y, hy, rfl⟩ := List.mem_map.mp hx'
      have e1 := (mem_live O.size).mp hy
      have hq := O.low _ _ e1
      have e2 : hs[y.2]? = some (hs.getD y.2 0) := by simp [hq]
      obtain ⟨j, e3, r⟩ := O.each y.2 _ hq e2
      have := O.inj _ _ _ e1 e3
      show Reach m _ (hs.getD y.2 0) y.1
      rw [this]
      exact r.mono occ
end TB


namespace TB
open PySem
section
variable {prog : Program} {w : World} {K : Type} [DecidableEq K] {knd : KeyKind prog w K} {A : Around} {E : Value → Shared → Prop} {s : Shared}

theorem ofClass_item (n : Nat) {v : Value} (h : carriedByValue v = true) : ofAClassStatement n v = pure false := by
  cases v with
  | ref a => simp [carriedByValue] at h
  | _ => unfold ofAClassStatement; rfl
theorem ofClass_tuple {ks : List K} {a : Addr} {Q : Bool → Shared → Prop} (hk : IsTupleKey knd s.heap ks a) (h : Q false s) : wpAny (model prog w) A (ofAClassStatement 8 (.ref a)) Q E s := by
  have hT := hk.typeIs
  obtain ⟨o, items, n, ho, _, hd, hi⟩ := hk
  unfold ofAClassStatement
  refine wpAny_bind (wpAny_typeOf hT ?_)
  dsimp only
  rw [if_pos (by decide)]
  refine wpAny_bind (wpAny_pure ?_)
  simp only [Bool.not_true, Bool.false_eq_true, if_false]
  refine wpAny_bind (wpAny_seqItems ho hd ?_)
  dsimp only
  refine wpAny_bind ?_
  rw [← Array.forIn_toList]
  refine wpAny_forIn_list _ (fun rest r s' => r.1 = none ∧ s' = s ∧ ∀ v ∈ rest, carriedByValue v = true) _ ?_ ?_ _ _ ⟨rfl, rfl, hi.byValue⟩
  · rintro v rest r s' ⟨hr, rfl, all⟩
    rw [ofClass_item _ (all v List.mem_cons_self)]
    refine wpAny_bind (wpAny_pure ?_)
    simp only [Bool.false_eq_true, if_false]
    exact wpAny_pure ⟨rfl, rfl, fun u hu => all u (List.mem_cons_of_mem _ hu)⟩
  · rintro ⟨r1, r2⟩ s' ⟨hr, rfl, _⟩
    cases hr
    exact wpAny_pure h
theorem unseen {ks : List K} {x : Addr} {ys : List Value} {Q : Bool → Shared → Prop} (hx : IsTupleKey knd s.heap ks x) (hy : ∀ v ∈ ys, ∃ a ks', v = .ref a ∧ IsTupleKey knd s.heap ks' a) (h : Q false s) :
    wpAny (model prog w) A (searchCouldBeSeen (.ref x) ys) Q E s := by
  unfold searchCouldBeSeen
  refine wpAny_bind ?_
  refine wpAny_forIn_list _ (fun rest r s' => r.1 = none ∧ s' = s ∧ ∀ v ∈ rest, ∃ a ks', v = .ref a ∧ IsTupleKey knd s.heap ks' a) _ ?_ ?_ _ _ ⟨rfl, rfl, hy⟩
  · rintro v rest r s' ⟨hr, rfl, all⟩
    obtain ⟨a, ks', rfl, ha⟩ := all v List.mem_cons_self
    have fin : (fun r (s'' : Shared) => match r with | ForInStep.yield b' => (fun (rest : List Value) (r : Option Bool × PUnit) s'' => r.1 = none ∧ s'' = s' ∧ ∀ v ∈ rest, ∃ a ks', v = .ref a ∧ IsTupleKey knd s'.heap ks' a) rest b' s'' | .done b' => wpAny (model prog w) A (match b'.1 with | none => pure false | some a => pure a) Q E s'') (ForInStep.yield (none, ())) s' := ⟨rfl, rfl, fun u hu => all u (List.mem_cons_of_mem _ hu)⟩
    dsimp only
    by_cases c : (x == a || (carriedByValue (.ref x) && carriedByValue (.ref a))) = true
    · rw [if_pos c]
      exact wpAny_pure fin
    · rw [if_neg c]
      refine wpAny_bind (wpAny_eqIsQuiet_tuple hx ?_)
      simp only [Bool.not_true, Bool.false_eq_true, if_false]
      refine wpAny_bind (wpAny_eqIsQuiet_tuple ha ?_)
      simp only [Bool.not_true, Bool.false_eq_true, if_false]
      refine wpAny_bind (ofClass_tuple hx ?_)
      simp only [Bool.false_eq_true, if_false]
      refine wpAny_bind (ofClass_tuple ha ?_)
      simp only [Bool.false_eq_true, if_false]
      exact wpAny_pure fin
  · rintro ⟨r1, r2⟩ s' ⟨hr, rfl, _⟩
    cases hr
    exact wpAny_pure h
end
end TB

namespace TB
open PySem
section
variable {prog : Program} {w : World} {K : Type} [DecidableEq K] {knd : KeyKind prog w K} {A : Around} {E : Value → Shared → Prop} {s : Shared}
def ent (knd : KeyKind prog w K) (p : Addr × List K) : Int × Value := (tupleKeyHash knd p.2, .ref p.1)
def hsh (knd : KeyKind prog w K) (p : Addr × List K) : Int := tupleKeyHash knd p.2
theorem ent_at (knd : KeyKind prog w K) (ps : List (Addr × List K)) (i : Nat) : (ps.map (ent knd)).toArray[i]? = (ps[i]?).map (ent knd) := by simp
theorem sameMem (t : SetTable) : t.sameMemory t.moves t.mask = some true := by
  unfold SetTable.sameMemory
  simp
theorem mem_place {t : SetTable} {j : Nat} (h : j ∈ t.place.toList) : ∃ i : Nat, t.place[i]? = some j := by
  obtain ⟨i, hi⟩ := List.mem_iff_getElem?.mp h
  exact ⟨i, by simpa using hi⟩

theorem skipSeen {α : Type} {c : Bool} {X : Sem Bool} {U R : Sem α} {Q : α → Shared → Prop} (hX : c = true → ∀ Q' : Bool → Shared → Prop, Q' false s → wpAny (model prog w) A X Q' E s) (hR : wpAny (model prog w) A R Q E s) :
    wpAny (model prog w) A (if c = true then (do let b ← X; if b = true then U else R) else R) Q E s := by
  by_cases h : c = true
  · rw [if_pos h]
    refine wpAny_bind (hX h _ ?_)
    rw [if_neg (by decide)]
    exact hR
  · rw [if_neg h]
    exact hR
theorem search {S x : Addr} {o : Obj} {ep : Nat} {t : SetTable} {ps : List (Addr × List K)} {ks : List K} {h : Int} {N : Nat} {Q : SetFound → Shared → Prop} (hu : A.units < cLine)
    (ho : s.heap.get? S = some o) (hd : o.data = .set (ps.map (ent knd)).toArray ep t) (H : Hold t (ps.map (hsh knd))) (odd : t.gaveWay = false) (hh : h = tupleKeyHash knd ks)
    (tups : ∀ p ∈ ps, IsTupleKey knd s.heap p.2 p.1) (hx : IsTupleKey knd s.heap ks x)
    (hN : N < 10 * SetTable.turns t.mask) (free : (pr t.mask h N).j ∉ t.place.toList) (occ : ∀ k, k < N → (pr t.mask h k).j ∈ t.place.toList)
    (yes : (∃ p ∈ ps, p.2 = ks) → Q (.there none) s) (no : (∀ p ∈ ps, p.2 ≠ ks) → Q (.free (pr t.mask h N).j false) s) :
    ∀ (d n fuel : Nat) (stand : Option SetTable.Probe), N - n = d → n ≤ N → d < fuel → stand.getD (t.probeStart h) = pr t.mask h n →
      (∀ (i : Nat) (p : Addr × List K), ps[i]? = some p → p.2 = ks → ∀ k, k < n → t.place[i]? ≠ some (pr t.mask h k).j) → wpAny (model prog w) A (setSearchFrom S (.ref x) h true fuel stand) Q E s := by
  have hfit : t.fits (ps.map (ent knd)).toArray.size = true := by
    have h1 := H.size
    have h2 := H.room
    simp only [SetTable.fits, SetTable.fill, H.plain.dum, Bool.and_eq_true, beq_iff_eq, decide_eq_true_eq]
    simp only [Array.length_toList, List.length_map] at h1 h2
    simp
    omega
  have hAt : ∀ (i : Nat) (p : Addr × List K), ps[i]? = some p → (((ps.map (ent knd)).toArray[i]?).map (·.1)).getD 0 = tupleKeyHash knd p.2 := fun i p e => by
    rw [ent_at, e]; rfl
  have atps : ∀ (i j : Nat), t.place[i]? = some j → ∃ p, ps[i]? = some p := fun i j e => by
    have hi : i < t.place.size := by
      rcases Nat.lt_or_ge i t.place.size with q | q
      · exact q
      · rw [Array.getElem?_eq_none q] at e; cases e
    have h1 := H.size
    simp only [Array.length_toList, List.length_map] at h1
    exact ⟨ps[i], List.getElem?_eq_getElem (by omega)⟩
  intro d
  induction d using Nat.strongRecOn with
  | _ d ih =>
    intro n fuel stand hdn hnN hf hst hno
    obtain ⟨f, rfl⟩ : ∃ f, fuel = f + 1 := ⟨fuel - 1, by omega⟩
    unfold setSearchFrom
    refine wpAny_bind (wpAny_setState_of ho hd hfit ?_)
    dsimp only
    simp only [odd, Bool.false_eq_true, if_false]
    -- the next stop
    have stopN : (pr t.mask h (n + (N - n))).j ∉ t.place.toList ∨ ∃ (i : Nat) (p : Addr × List K), t.place[i]? = some (pr t.mask h (n + (N - n))).j ∧ ps[i]? = some p ∧ tupleKeyHash knd p.2 = h := .inl (by rw [show n + (N - n) = N by omega]; exact free)
    haveI : DecidablePred fun e : Nat => (pr t.mask h (n + e)).j ∉ t.place.toList ∨ ∃ (i : Nat) (p : Addr × List K), t.place[i]? = some (pr t.mask h (n + e)).j ∧ ps[i]? = some p ∧ tupleKeyHash knd p.2 = h := fun _ => Classical.propDecidable _
    obtain ⟨e, he, stop, before⟩ := least (p := fun e : Nat => (pr t.mask h (n + e)).j ∉ t.place.toList ∨ ∃ (i : Nat) (p : Addr × List K), t.place[i]? = some (pr t.mask h (n + e)).j ∧ ps[i]? = some p ∧ tupleKeyHash knd p.2 = h) (N - n) stopN
    have pass : ∀ k, k < e → ∃ i, t.slot (pr t.mask h (n + k)).j = .live i ∧ ((((ps.map (ent knd)).toArray[i]?).map (·.1)).getD 0 == h) = false := fun k hk => by
      obtain ⟨i, hi⟩ := mem_place (occ (n + k) (by omega))
      obtain ⟨p, hp⟩ := atps i _ hi
      refine ⟨i, slot_live H.plain hi, ?_⟩
      rw [hAt i p hp]
      have nb := before k hk
      have : ¬ tupleKeyHash knd p.2 = h := fun z => nb (.inr ⟨i, p, hi, hp, z⟩)
      simpa using this
    by_cases c : (pr t.mask h (n + e)).j ∈ t.place.toList
    · -- a candidate
      obtain ⟨i, p, hi, hp, hph⟩ : ∃ (i : Nat) (p : Addr × List K), t.place[i]? = some (pr t.mask h (n + e)).j ∧ ps[i]? = some p ∧ tupleKeyHash knd p.2 = h := by
        rcases stop with q | q
        · exact absurd c q
        · exact q
      have hlt : n + e < N := by
        rcases Nat.lt_or_ge (n + e) N with q | q
        · exact q
        · have : n + e = N := by omega
          rw [this] at c
          exact absurd c free
      have hpr : ∀ g : Nat → Int, (∀ i, g i = (((ps.map (ent knd)).toArray[i]?).map (·.1)).getD 0) → t.probe g h (stand.getD (t.probeStart h)) = some (.candidate (pr t.mask h (n + e)).j i (pr t.mask h (n + e + 1))) := fun g hg => by
        obtain rfl : g = fun i => (((ps.map (ent knd)).toArray[i]?).map (·.1)).getD 0 := funext hg
        rw [hst]
        exact go_cand e _ n (by omega) pass (slot_live H.plain hi) (by rw [hAt i p hp, hph]; simp)
      rw [hpr]
      rotate_left
      · intro i; rfl
      dsimp only
      have hpm : p ∈ ps := List.mem_of_getElem? hp
      refine skipSeen (fun _ Q' q' => unseen hx (fun v hv => ?_) q') ?_
      · obtain ⟨y, hy, rfl⟩ := List.mem_map.mp hv
        have hy2 : y ∈ (ps.map (ent knd)) := by
          have := Array.mem_toList_iff.mp hy
          have := (Array.mem_filter.mp this).1
          simpa using this
        obtain ⟨p', hp', rfl⟩ := List.mem_map.mp hy2
        exact ⟨p'.1, p'.2, rfl, tups p' hp'⟩
      rw [ent_at, hp]
      dsimp only [Option.map_some, ent]
      refine wpAny_bind (wpAny_holding (wpAny_eqBool_tuple hu (tups p hpm) hx ?_))
      refine wpAny_bind (wpAny_setState_of ho hd hfit ?_)
      dsimp only
      by_cases ek : p.2 = ks
      · rw [decide_eq_true ek]
        simp only [Bool.and_self, if_true]
        exact wpAny_pure (yes ⟨p, hpm, ek⟩)
      · rw [decide_eq_false ek]
        simp only [Bool.and_false, Bool.false_eq_true, if_false]
        rw [sameMem]
        dsimp only
        rw [if_pos rfl, slot_live H.plain hi]
        dsimp only
        rw [ent_at, hp]
        dsimp only [Option.map_some, ent]
        refine wpAny_bind (wpAny_isSame_ref_self (wpAny_bind (wpAny_pure ?_)))
        rw [if_pos rfl]
        dsimp only
        refine ih (N - (n + e + 1)) (by omega) (n + e + 1) f _ rfl (by omega) (by omega) rfl fun i' p' hp' hk' k hk => ?_
        by_cases c1 : k < n
        · exact hno i' p' hp' hk' k c1
        · by_cases c2 : k < n + e
          · intro z
            have := before (k - n) (by omega)
            rw [show n + (k - n) = k by omega] at this
            exact this (.inr ⟨i', p', z, hp', by rw [hk', hh]⟩)
          · have : k = n + e := by omega
            subst this
            intro z
            have e1 := get_of_below H.plain.rise z
            have e2 := get_of_below H.plain.rise hi
            have : i' = i := by omega
            subst this
            rw [hp] at hp'
            cases hp'
            exact ek hk'
    · -- a free place
      have hpr : ∀ g : Nat → Int, (∀ i, g i = (((ps.map (ent knd)).toArray[i]?).map (·.1)).getD 0) → t.probe g h (stand.getD (t.probeStart h)) = some (.empty (pr t.mask h (n + e)).j none) := fun g hg => by
        obtain rfl : g = fun i => (((ps.map (ent knd)).toArray[i]?).map (·.1)).getD 0 := funext hg
        rw [hst]
        exact go_empty e _ n (by omega) pass (slot_empty H.plain c)
      rw [hpr]
      rotate_left
      · intro i; rfl
      dsimp only
      have hNe : n + e = N := by
        rcases Nat.lt_or_ge (n + e) N with q | q
        · exact absurd (occ _ q) c
        · omega
      rw [hNe]
      refine wpAny_pure (no fun p hpm ek => ?_)
      obtain ⟨i, hp⟩ := List.mem_iff_getElem?.mp hpm
      -- it would have been met
      have hz : ∃ j, t.place[i]? = some j ∧ (j, hsh knd p) ∈ t.place.toList.zip (ps.map (hsh knd)) := by
        have h1 := H.size
        simp only [Array.length_toList, List.length_map] at h1
        have hi : i < ps.length := (List.getElem?_eq_some_iff.mp hp).1
        refine ⟨t.place[i]'(by omega), Array.getElem?_eq_getElem _, List.mem_iff_getElem?.mpr ⟨i, ?_⟩⟩
        rw [List.getElem?_zip_eq_some]
        refine ⟨by simp [show i < t.place.size by omega], ?_⟩
        rw [List.getElem?_map, hp]
        rfl
      obtain ⟨j, hj, hjz⟩ := hz
      obtain ⟨n0, e0, b0⟩ := H.reach _ hjz
      have e0' : (pr t.mask h n0).j = j := by
        have : hsh knd p = h := by unfold hsh; rw [ek, hh]
        rw [this] at e0
        exact e0
      have b0' : ∀ k, k < n0 → (pr t.mask h k).j ∈ t.place.toList := fun k hk => by
        have : hsh knd p = h := by unfold hsh; rw [ek, hh]
        rw [this] at b0
        exact b0 k hk
      have jm : j ∈ t.place.toList := by
        have := Array.mem_of_getElem? hj
        exact Array.mem_toList_iff.mpr this
      have hn0 : n0 < N := by
        rcases Nat.lt_trichotomy n0 N with q | q | q
        · exact q
        · rw [q] at e0'; rw [e0'] at free; exact absurd jm free
        · exact absurd (b0' N q) free
      by_cases c1 : n0 < n
      · exact hno i p hp ek n0 c1 (by rw [e0']; exact hj)
      · have := before (n0 - n) (by omega)
        rw [show n + (n0 - n) = n0 by omega] at this
        exact this (.inr ⟨i, p, by rw [e0']; exact hj, hp, by rw [ek, hh]⟩)
end
end TB

namespace TB
open PySem
section
variable {prog : Program} {w : World} {K : Type} [DecidableEq K] {knd : KeyKind prog w K} {A : Around} {E : Value → Shared → Prop} {s : Shared}
def MaskOk (m n : Nat) : Prop := (m = 7 ∧ n < 5) ∨ (m = 31 ∧ n < 19) ∨ (m = 127 ∧ n < 77)
theorem MaskOk.whole {m n : Nat} (h : MaskOk m n) : Whole m := by
  rcases h with ⟨rfl, _⟩ | ⟨rfl, _⟩ | ⟨rfl, _⟩
  · exact whole7
  · exact whole31
  · exact whole127
theorem MaskOk.odd {t : SetTable} {n : Nat} (h : MaskOk t.mask n) : t.gaveWay = false := by
  unfold SetTable.gaveWay
  rcases h with ⟨e, _⟩ | ⟨e, _⟩ | ⟨e, _⟩ <;> rw [e] <;> rfl
def SetAt (knd : KeyKind prog w K) (h : Heap) (S : Addr) (ps : List (Addr × List K)) : Prop := ∃ o ep t, h.get? S = some o ∧ o.ExactSet ∧ o.data = .set (ps.map (ent knd)).toArray ep t ∧ Hold t (ps.map (hsh knd)) ∧ (t.plain = true ∧ t.led = !w.params.followText "set-order") ∧ MaskOk t.mask ps.length ∧ (ps.map (·.2)).Nodup
/-- what a hash hangs on is known -/
def ByVal (knd : KeyKind prog w K) : Prop := ∀ (n : Nat) (k : K) (v : Value), knd.is k v = true → hashByValue n v = pure true
theorem items_byVal (hb : ByVal knd) {ks : List K} {vs : List Value} (hi : ItemsAre knd ks vs) : ∀ v ∈ vs, ∀ n, hashByValue n v = pure true := by
  induction hi with
  | nil => intro v hv; cases hv
  | cons h1 _ ih =>
    intro v hv n
    rcases List.mem_cons.mp hv with rfl | hv
    · exact hb n _ _ h1
    · exact ih v hv n
theorem byValue_tuple (hb : ByVal knd) {ks : List K} {a : Addr} {Q : Bool → Shared → Prop} (hk : IsTupleKey knd s.heap ks a) (h : Q true s) : wpAny (model prog w) A (hashByValue 8 (.ref a)) Q E s := by
  have hT := hk.typeIs
  obtain ⟨o, items, n, ho, _, hd, hi⟩ := hk
  unfold hashByValue
  refine wpAny_bind (wpAny_specialOf hT F.slot_tuple_hash.lookup ?_)
  show wpAny _ _ ((seqItems? (.ref a)) >>= _) _ _ s
  refine wpAny_bind (wpAny_seqItems ho hd ?_)
  refine wpAny_bind ?_
  show wpAny _ _ (forIn items _ _) _ _ s
  rw [← Array.forIn_toList]
  refine wpAny_forIn_list _ (fun rest r s' => r.1 = none ∧ s' = s ∧ ∀ v ∈ rest, ∀ n, hashByValue n v = pure true) _ ?_ ?_ _ _ ⟨rfl, rfl, items_byVal hb hi⟩
  · rintro v rest r s' ⟨hr, rfl, all⟩
    rw [all v List.mem_cons_self]
    refine wpAny_bind (wpAny_pure ?_)
    simp only [Bool.not_true, Bool.false_eq_true, if_false]
    exact wpAny_pure ⟨rfl, rfl, fun u hu => all u (List.mem_cons_of_mem _ hu)⟩
  · rintro ⟨r1, r2⟩ s' ⟨hr, rfl, _⟩
    cases hr
    exact wpAny_pure h

def picked (ps : List (Addr × List K)) (order : List Nat) : List (Addr × List K) := order.filterMap (ps[·]?)
theorem picked_map {β : Type} (f : Addr × List K → β) (ps : List (Addr × List K)) (d : β) : ∀ (order : List Nat), (∀ q ∈ order, q < ps.length) → (picked ps order).map f = order.map fun q => (ps.map f).getD q d
  | [], _ => rfl
  | q :: r, h => by
    have hq := h q List.mem_cons_self
    have ih := picked_map f ps d r fun x hx => h x (List.mem_cons_of_mem _ hx)
    unfold picked at ih ⊢
    rw [List.filterMap_cons, List.getElem?_eq_getElem hq]
    show f ps[q] :: _ = _
    rw [ih, List.map_cons]
    congr 1
    simp [hq]
theorem picked_arr (ps : List (Addr × List K)) (order : Array Nat) : (order.filterMap fun q => (ps.map (ent knd)).toArray[q]?) = ((picked ps order.toList).map (ent knd)).toArray := by
  apply Array.toList_inj.mp
  rw [Array.toList_filterMap]
  unfold picked
  rw [List.map_filterMap]
  show List.filterMap _ _ = List.filterMap _ _
  congr 1
  funext q
  rw [ent_at]
theorem picked_mem {ps : List (Addr × List K)} {order : List Nat} (nd : order.Nodup) (hl : order.length = ps.length) (hb : ∀ q ∈ order, q < ps.length) {p : Addr × List K} : p ∈ picked ps order ↔ p ∈ ps := by
  unfold picked
  rw [List.mem_filterMap]
  constructor
  · rintro ⟨q, _, e⟩
    exact List.mem_of_getElem? e
  · intro hp
    obtain ⟨q, e⟩ := List.mem_iff_getElem?.mp hp
    have hq : q < ps.length := (List.getElem?_eq_some_iff.mp e).1
    refine ⟨q, ?_, e⟩
    by_cases c : q ∈ order
    · exact c
    · have := nodup_sub (l2 := (List.range ps.length).erase q) nd fun x hx => (List.mem_erase_of_ne (fun (z : x = q) => c (z ▸ hx))).mpr (List.mem_range.mpr (hb x hx))
      rw [List.length_erase_of_mem (List.mem_range.mpr hq), List.length_range] at this
      omega
theorem picked_nodup {ps : List (Addr × List K)} {order : List Nat} (nd : order.Nodup) (hb : ∀ q ∈ order, q < ps.length) (hk : (ps.map (·.2)).Nodup) : ((picked ps order).map (·.2)).Nodup := by
  unfold picked
  rw [List.Nodup, List.pairwise_map]
  refine List.Pairwise.filterMap _ ?_ nd
  intro a b hab x hx y hy e
  have ha : ps[a]? = some x := hx
  have hb : ps[b]? = some y := hy
  apply hab
  have h1 : (ps.map (·.2))[a]? = some x.2 := by rw [List.getElem?_map, ha]; rfl
  have h2 : (ps.map (·.2))[b]? = some x.2 := by rw [List.getElem?_map, hb, e]; rfl
  have la := (List.getElem?_eq_some_iff.mp h1).1
  exact (List.getElem?_inj la hk).mp (h1.trans h2.symm)
theorem put_get {h : Heap} {S : Addr} {o : Obj} {es : Array (Int × Value)} {ep : Nat} {t : SetTable} (ho : h.get? S = some o) (hd : o.data = .set es ep t) (es' : Array (Int × Value)) (t' : SetTable) :
    (h.update S (Obj.putSet es' t')).get? S = some { o with data := .set es' (ep + 1) t' } := by
  have e := putSet_of es' t' hd
  rw [Heap.get?_update_self _ ho (by rw [e]; rfl), e]
theorem relay {S : Addr} {o : Obj} {ep wanted m : Nat} {t : SetTable} {ps : List (Addr × List K)} {Q : Unit → Shared → Prop} (ho : s.heap.get? S = some o) (hex : o.ExactSet) (hd : o.data = .set (ps.map (ent knd)).toArray ep t) (H : Hold t (ps.map (hsh knd))) (hp : t.plain = true ∧ t.led = !w.params.followText "set-order")
    (hk : (ps.map (·.2)).Nodup) (hw : SetTable.sizeAbove wanted = m + 1) (hm : MaskOk m ps.length) (hlm : ps.length ≤ m)
    (h : ∀ h' ps', Heap.SameBut S s.heap h' → SetAt knd h' S ps' → (∀ p, p ∈ ps' ↔ p ∈ ps) → ps'.length = ps.length → Q () { s with heap := h' }) : wpAny (model prog w) A (setRelay S wanted) Q E s := by
  have hfit : t.fits (ps.map (ent knd)).toArray.size = true := by
    have h1 := H.size
    have h2 := H.room
    simp only [SetTable.fits, SetTable.fill, H.plain.dum, Bool.and_eq_true, beq_iff_eq, decide_eq_true_eq]
    simp only [Array.length_toList, List.length_map] at h1 h2
    simp
    omega
  have hm127 : m ≤ 127 := by rcases hm with ⟨rfl, _⟩ | ⟨rfl, _⟩ | ⟨rfl, _⟩ <;> decide
  unfold setRelay
  refine wpAny_bind (wpAny_setState_of ho hd hfit ?_)
  dsimp only
  rw [if_neg (by rw [hw, sizeLine_eq]; omega)]
  obtain ⟨t', order, e, e1, e2, e3, e4, e5, e6, e7, H'⟩ := laid_spec hm.whole t.finger (t.movedTo m) t.led t.plain (ps.map (hsh knd)) (by rw [List.length_map]; exact hlm)
  rw [List.length_map] at e5 e7
  have hr : t.relaid ((ps.map (ent knd)).toArray.map (·.1)) wanted = some (t', order) := by
    unfold SetTable.relaid
    rw [hw]
    have : (ps.map (ent knd)).toArray.map (·.1) = (ps.map (hsh knd)).toArray := by
      apply Array.toList_inj.mp
      simp [hsh, ent]
    rw [this]
    exact e
  rw [hr]
  have es' := picked_arr (knd := knd) ps order
  have hlen : (picked ps order.toList).length = ps.length := by
    have := congrArg List.length (picked_map (fun p => p) ps (default : Addr × List K) order.toList e7)
    simpa [e5] using this
  have hmem : ∀ p, p ∈ picked ps order.toList ↔ p ∈ ps := fun p => picked_mem e6 e5 e7
  have hH : Hold t' ((picked ps order.toList).map (hsh knd)) := by
    rw [picked_map (hsh knd) ps 0 order.toList e7]
    exact H'
  refine wpAny_bind ?_
  show wpAny (model prog w) A (if ((order.filterMap fun q => (ps.map (ent knd)).toArray[q]?).size != (ps.map (ent knd)).toArray.size) = true then _ else pure (_, _)) _ E s
  rw [es', if_neg (by simp [hlen])]
  refine wpAny_pure ?_
  dsimp only
  refine wpAny_storeSet_of ho hd ?_ (by rw [sizeLine_eq]; simp [hlen]; omega)
  refine h _ (picked ps order.toList) (Heap.SameBut.update _ _ _) ?_ hmem hlen
  exact ⟨_, ep + 1, t', put_get ho hd _ _, hex, rfl, hH, by rw [e3, e2]; exact hp, by rw [e1, hlen]; exact hm, picked_nodup e6 e7 hk⟩

theorem MaskOk.next {t : SetTable} {n : Nat} (h : MaskOk t.mask n) (hn : n < 76) (hf : t.place.size = n + 1) (hdm : t.dummies = #[]) : (t.tooFull = false → MaskOk t.mask (n + 1)) ∧ (t.tooFull = true → ∃ m, SetTable.sizeAbove (SetTable.grown (n + 1)) = m + 1 ∧ MaskOk m (n + 1) ∧ n + 1 ≤ m) := by
  have fill : t.fill = n + 1 := by unfold SetTable.fill; rw [hf, hdm]; rfl
  unfold SetTable.tooFull
  rw [fill]
  unfold MaskOk at h ⊢
  rcases h with ⟨e, h⟩ | ⟨e, h⟩ | ⟨e, h⟩
  · rw [e]
    constructor
    · intro c
      have : ¬ (n + 1) * 5 ≥ 7 * 3 := by simpa using c
      exact .inl ⟨rfl, by omega⟩
    · intro c
      have c' : (n + 1) * 5 ≥ 7 * 3 := by simpa using c
      have : n = 4 := by omega
      subst this
      exact ⟨31, by decide, .inr (.inl ⟨rfl, by omega⟩), by omega⟩
  · rw [e]
    constructor
    · intro c
      have : ¬ (n + 1) * 5 ≥ 31 * 3 := by simpa using c
      exact .inr (.inl ⟨rfl, by omega⟩)
    · intro c
      have c' : (n + 1) * 5 ≥ 31 * 3 := by simpa using c
      have : n = 18 := by omega
      subst this
      exact ⟨127, by decide, .inr (.inr ⟨rfl, by omega⟩), by omega⟩
  · rw [e]
    constructor
    · intro c
      exact .inr (.inr ⟨rfl, by omega⟩)
    · intro c
      have c' : (n + 1) * 5 ≥ 127 * 3 := by simpa using c
      omega
theorem MaskOk.room {m n : Nat} (h : MaskOk m n) : n + 1 ≤ m := by
  rcases h with ⟨rfl, _⟩ | ⟨rfl, _⟩ | ⟨rfl, _⟩ <;> omega
theorem insertAt_map {α β : Type} (f : α → β) (l : List α) (p : Nat) (x : α) (h : p ≤ l.length) : SetTable.insertAt (l.map f).toArray p (f x) = ((l.take p ++ x :: l.drop p).map f).toArray := by
  apply Array.toList_inj.mp
  rw [insertAt_list _ _ _ (by simpa using h)]
  simp
theorem add {S x : Addr} {ps : List (Addr × List K)} {ks : List K} {Q : Bool → Shared → Prop} (hb : ByVal knd) (hu : A.units < cLine) (hS : SetAt knd s.heap S ps) (tups : ∀ p ∈ ps, IsTupleKey knd s.heap p.2 p.1) (hx : IsTupleKey knd s.heap ks x) (hn : ps.length < 76)
    (h : ∀ b h' ps', Heap.SameBut S s.heap h' → SetAt knd h' S ps' → (∀ p, p ∈ ps' → p ∈ ps ∨ p = (x, ks)) → (∀ p ∈ ps, p ∈ ps') → (∃ p ∈ ps', p.2 = ks) → ps'.length ≤ ps.length + 1 → Q b { s with heap := h' }) :
    wpAny (model prog w) A (setAddHashed S (.ref x) (tupleKeyHash knd ks)) Q E s := by
  obtain ⟨o, ep, t, ho, hex, hd, H, hp, hm, hk⟩ := id hS
  have hfit : t.fits (ps.map (ent knd)).toArray.size = true := by
    have h1 := H.size
    have h2 := H.room
    simp only [SetTable.fits, SetTable.fill, H.plain.dum, Bool.and_eq_true, beq_iff_eq, decide_eq_true_eq]
    simp only [Array.length_toList, List.length_map] at h1 h2
    simp
    omega
  unfold setAddHashed
  refine wpAny_holding ?_
  unfold setAddHashedIn
  refine wpAny_bind (wpAny_setState_of ho hd hfit ?_)
  dsimp only
  have hbs : byScan (.ref x) (ps.map (ent knd)).toArray = false := rfl
  rw [hbs]
  simp only [Bool.false_eq_true, if_false]
  obtain ⟨N, hN, free, occ⟩ := H.first (tupleKeyHash knd ks)
  have htb : SetTable.turns t.mask ≤ 142 := by
    unfold SetTable.turns
    rcases hm with ⟨e, _⟩ | ⟨e, _⟩ | ⟨e, _⟩ <;> omega
  unfold setSearch
  refine wpAny_bind (search (ks := ks) (x := x) hu ho hd H hm.odd rfl tups hx hN free occ (fun yes => ?_) (fun no => ?_) N 0 100000 none (by omega) (Nat.zero_le _) (by omega) rfl fun _ _ _ _ k hk => absurd hk (by omega))
  · dsimp only
    refine wpAny_pure ?_
    have := h false s.heap ps ⟨rfl, fun _ _ => rfl⟩ hS (fun p hp => .inl hp) (fun p hp => hp) yes (by omega)
    exact this
  · dsimp only
    refine wpAny_bind (wpAny_setState_of ho hd hfit ?_)
    dsimp only
    have hj := (adv_j_le t.mask (tupleKeyHash knd ks) N).1
    obtain ⟨b1, b2, b3, b4, H2⟩ := H.put free hj ⟨N, rfl, occ⟩ (by rw [List.length_map]; exact hm.room)
    rw [List.length_map] at b1 b3
    have hpl : (t.put (pr t.mask (tupleKeyHash knd ks) N).j).1.plain = true ∧ (t.put (pr t.mask (tupleKeyHash knd ks) N).j).1.led = !w.params.followText "set-order" := hp
    rw [hpl.1]
    simp only [if_true]
    refine wpAny_bind (byValue_tuple hb hx ?_)
    simp only [if_true]
    have arr : SetTable.insertAt (ps.map (ent knd)).toArray (t.put (pr t.mask (tupleKeyHash knd ks) N).j).2 (tupleKeyHash knd ks, Value.ref x) = ((ps.take (t.put (pr t.mask (tupleKeyHash knd ks) N).j).2 ++ (x, ks) :: ps.drop (t.put (pr t.mask (tupleKeyHash knd ks) N).j).2).map (ent knd)).toArray :=
      insertAt_map (ent knd) ps _ (x, ks) b1
    rw [arr]
    generalize hp2 : (t.put (pr t.mask (tupleKeyHash knd ks) N).j).2 = q at *
    have H3 : Hold (t.put (pr t.mask (tupleKeyHash knd ks) N).j).1 ((ps.take q ++ (x, ks) :: ps.drop q).map (hsh knd)) := by
      have e : (ps.take q ++ (x, ks) :: ps.drop q).map (hsh knd) = (ps.map (hsh knd)).take q ++ tupleKeyHash knd ks :: (ps.map (hsh knd)).drop q := by
        rw [List.map_append, List.map_cons, List.map_take, List.map_drop]
        rfl
      rw [e]
      exact H2
    generalize hps' : ps.take q ++ (x, ks) :: ps.drop q = ps' at *
    have hlen : ps'.length = ps.length + 1 := by
      rw [← hps', List.length_append, List.length_cons, List.length_take, List.length_drop]
      omega
    have hmem : ∀ p, p ∈ ps' ↔ p = (x, ks) ∨ p ∈ ps := fun p => by rw [← hps']; exact mem_ins
    have hk' : (ps'.map (·.2)).Nodup := by
      rw [← hps', List.map_append, List.map_cons, List.map_take, List.map_drop]
      have nin : ks ∉ ps.map (·.2) := fun z => by
        obtain ⟨p, hp, e⟩ := List.mem_map.mp z
        exact no p hp e
      have sp : ((ps.map (·.2)).take q ++ (ps.map (·.2)).drop q).Nodup := by rw [List.take_append_drop]; exact hk
      rw [List.nodup_append] at sp ⊢
      refine ⟨sp.1, List.nodup_cons.mpr ⟨fun z => nin (List.mem_of_mem_drop z), sp.2.1⟩, fun a ha b hb e => ?_⟩
      rcases List.mem_cons.mp hb with rfl | hb
      · exact nin (e ▸ List.mem_of_mem_take ha)
      · exact sp.2.2 a ha b hb e
    generalize hput : (t.put (pr t.mask (tupleKeyHash knd ks) N).j).1 = t2 at *
    have hsz : (ps'.map (ent knd)).toArray.size ≤ sizeLine := by rw [sizeLine_eq]; simp [hlen]; omega
    refine wpAny_bind (wpAny_storeSet_of ho hd ?_ hsz)
    have hm2 : MaskOk t2.mask ps.length := by rw [b2]; exact hm
    obtain ⟨n1, n2⟩ := hm2.next hn b3 b4
    have hget := put_get ho hd (ps'.map (ent knd)).toArray t2
    have first : (∀ p, p ∈ ps' → p ∈ ps ∨ p = (x, ks)) ∧ (∀ p ∈ ps, p ∈ ps') ∧ (∃ p ∈ ps', p.2 = ks) := ⟨fun p hp => ((hmem p).mp hp).symm, fun p hp => (hmem p).mpr (.inr hp), (x, ks), (hmem _).mpr (.inl rfl), rfl⟩
    have esz : (ps.map (ent knd)).toArray.size + 1 = ps.length + 1 := by simp
    cases c : t2.tooFull with
    | false =>
      simp only [Bool.not_false, Bool.and_false, Bool.false_eq_true, if_false]
      refine wpAny_pure ?_
      refine h true _ ps' (Heap.SameBut.update _ _ _) ?_ first.1 first.2.1 first.2.2 (by omega)
      exact ⟨_, ep + 1, t2, hget, hex, rfl, H3, hpl, by rw [hlen]; exact n1 c, hk'⟩
    | true =>
      simp only [Bool.not_false, Bool.and_self, if_true]
      obtain ⟨m, w1, w2, w3⟩ := n2 c
      rw [esz]
      refine wpAny_bind (relay (s := { s with heap := s.heap.update S (Obj.putSet (ps'.map (ent knd)).toArray t2) }) hget hex rfl H3 hpl hk' w1 (by rw [hlen]; exact w2) (by rw [hlen]; exact w3) fun h' ps2 sb hS2 hm2 hl2 => ?_)
      refine wpAny_pure ?_
      obtain ⟨p0, hp0, ek0⟩ := first.2.2
      refine h true h' ps2 ((Heap.SameBut.update _ _ _).trans sb) hS2 (fun p hp => first.1 p ((hm2 p).mp hp)) (fun p hp => (hm2 p).mpr (first.2.1 p hp)) ⟨p0, (hm2 p0).mpr hp0, ek0⟩ (by omega)
end
end TB

namespace TB
open PySem PySem.Spec
section
variable {prog : Program} {w : World} {K : Type} [DecidableEq K] {knd : KeyKind prog w K} {A : Around} {E : Value → Shared → Prop} {s : Shared}
theorem key_at {h h' : Heap} {ks : List K} {a : Addr} (x : IsTupleKey knd h ks a) (k : ∀ o, h.get? a = some o → h'.get? a = some o) : IsTupleKey knd h' ks a := by
  obtain ⟨o, items, n, ho, r⟩ := x
  exact ⟨o, items, n, k o ho, r⟩
theorem SetAt.ne {h : Heap} {S a : Addr} {ps : List (Addr × List K)} {ks : List K} (x : SetAt knd h S ps) (y : IsTupleKey knd h ks a) : a ≠ S := by
  rintro rfl
  obtain ⟨o, _, _, ho, ex, _⟩ := x
  obtain ⟨o', _, _, ho', hc, _⟩ := y
  rw [ho] at ho'
  cases ho'
  rw [ex.1] at hc
  exact absurd hc (by decide)
theorem SetAt.at_ {h h' : Heap} {S : Addr} {ps : List (Addr × List K)} (x : SetAt knd h S ps) (k : ∀ o, h.get? S = some o → h'.get? S = some o) : SetAt knd h' S ps := by
  obtain ⟨o, ep, t, ho, r⟩ := x
  exact ⟨o, ep, t, k o ho, r⟩
/-- how many different ones there may be -/
def Few (xs : List (Addr × List K)) (M : Nat) : Prop := ∀ l : List (List K), l.Nodup → (∀ k ∈ l, ∃ p ∈ xs, p.2 = k) → l.length ≤ M
theorem Few.ps {xs ps : List (Addr × List K)} {M : Nat} (f : Few xs M) (nd : (ps.map (·.2)).Nodup) (sub : ∀ p ∈ ps, p ∈ xs) : ps.length ≤ M := by
  have := f _ nd fun k hk => by
    obtain ⟨p, hp, rfl⟩ := List.mem_map.mp hk
    exact ⟨p, sub p hp, rfl⟩
  rwa [List.length_map] at this
variable {I : Addr} {fp wr : List Addr} {n : Nat} {P : Nat → Value → Prop} {St : Nat → Heap → Prop} {R : Result → Shared → Prop}
theorem updLoop (W : Walks prog w A.in1 I fp wr n P St) (S : Addr) (hSf : S ∉ fp) {xs : List (Addr × List K)} (hn : xs.length = n) (hval : ∀ (i : Nat) (v : Value), P i v → ∃ p, xs[i]? = some p ∧ v = .ref p.1) (hw : ∀ p ∈ xs, p.1 ∉ wr)
    (hb : ByVal knd) (hu : A.in1.units < cLine) (few : Few xs 75) :
    ∀ (k i : Nat) (s : Shared) (ps : List (Addr × List K)), n - i = k → i ≤ n → St i s.heap → SetAt knd s.heap S ps → (∀ p ∈ xs, IsTupleKey knd s.heap p.2 p.1) → (∀ p ∈ ps, p ∈ xs) → (∀ p ∈ xs.take i, ∃ q ∈ ps, q.2 = p.2) →
      (∀ h' tk ps', (∀ b o, b ≠ S → b ∉ wr → s.heap.get? b = some o → h'.get? b = some o) → SetAt knd h' S ps' → (∀ p ∈ ps', p ∈ xs) → (∀ p ∈ xs, ∃ q ∈ ps', q.2 = p.2) → R (.ok (.ret .none)) { s with heap := h', toks := tk }) →
      codeAny (model prog w) A (.builtin "set.update.loop" ⟨[.ref S, .ref I], []⟩) R s := by
  have hSw : S ∉ wr := fun h => hSf (W.sub _ h)
  intro k
  induction k with
  | zero =>
    intro i s ps hk hi hst hS tups sub all hR
    obtain rfl : i = n := by omega
    refine codeAny_builtin PyProof.Rows.F.entry_set_update_loop ?_
    rw [Around.under_plainId PyProof.Rows.F.plain_set_update_loop _]
    show wpAny _ A.in1 (pyNext (.ref I) >>= _) _ _ s
    refine wpAny_bind (W.done s _ _ hst fun h' tk hm => ?_)
    show wpAny _ A.in1 (ret Value.none) _ _ _
    refine wpAny_pure (hR h' tk ps (fun b o _ hb e => hm b o hb e) (hS.at_ fun o e => hm S o hSw e) sub ?_)
    rw [← hn, List.take_length] at all
    exact all
  | succ k ih =>
    intro i s ps hk hi hst hS tups sub all hR
    have hlt : i < n := by omega
    refine codeAny_builtin PyProof.Rows.F.entry_set_update_loop ?_
    rw [Around.under_plainId PyProof.Rows.F.plain_set_update_loop _]
    show wpAny _ A.in1 (pyNext (.ref I) >>= _) _ _ s
    refine wpAny_bind (W.item i s _ _ hlt hst fun v h' tk hP hst' hm => ?_)
    obtain ⟨p, hp, rfl⟩ := hval i v hP
    have hpx : p ∈ xs := List.mem_of_getElem? hp
    have hS' : SetAt knd h' S ps := hS.at_ fun o e => hm S o hSw e
    have tups' : ∀ q ∈ xs, IsTupleKey knd h' q.2 q.1 := fun q hq => key_at (tups q hq) fun o e => hm _ o (hw q hq) e
    show wpAny _ A.in1 (holding [Value.ref p.1] (setAdd S (.ref p.1)) >>= _) _ _ _
    refine wpAny_bind (wpAny_holding ?_)
    unfold setAdd
    refine wpAny_holding ?_
    refine wpAny_bind (wpAny_pyHash_tuple hu (tups' p hpx) ?_)
    have hl75 : ps.length ≤ 75 := few.ps (let ⟨_, _, _, _, _, _, _, _, _, nd⟩ := hS; nd) sub
    refine add (s := { s with heap := h', toks := tk + (p.2.length + 1) }) hb hu hS' (fun q hq => tups' q (sub q hq)) (tups' p hpx) (by omega) fun b h2 ps2 sb hS2 m1 m2 m3 hl => ?_
    have keep : ∀ b o, b ≠ S → h'.get? b = some o → h2.get? b = some o := fun b o hb e => (sb.2 b hb).trans e
    refine wpAny_pure ⟨plainId_quiet PyProof.Rows.F.plain_set_update_loop _, ih (i + 1) _ ps2 (by omega) hlt (W.frame _ _ _ hst' fun b hb o e => ?_) hS2 (fun q hq => key_at (tups' q hq) fun o e => keep _ o (hS'.ne (tups' q hq)) e) (fun q hq => ?_) (fun q hq => ?_) fun h3 tk3 ps3 kp hS3 s3 a3 => ?_⟩
    · exact keep b o (fun (h : b = S) => hSf (h ▸ hb)) e
    · rcases m1 q hq with z | z
      · exact sub q z
      · rw [z]; exact hpx
    · have htk : xs.take (i + 1) = xs.take i ++ [p] := by rw [List.take_succ, hp]; rfl
      rw [htk] at hq
      rcases List.mem_append.mp hq with z | z
      · obtain ⟨q', hq', e⟩ := all q z
        exact ⟨q', m2 q' hq', e⟩
      · rw [List.mem_singleton.mp z]; exact m3
    · exact hR h3 tk3 ps3 (fun b o h1 h2' e => kp b o h1 h2' (keep b o h1 (hm b o h2' e))) hS3 s3 a3
end

section
variable {prog : Program} {w : World} {K : Type} [DecidableEq K] {knd : KeyKind prog w K} {A : Around} {E : Value → Shared → Prop} {s : Shared}
theorem freshAt {h : Heap} {S : Addr} {led : Bool} (hl : led = !w.params.followText "set-order") (e : h.get? S = some { cls := .type "set", dict := none, data := .set #[] 0 (.fresh 0 0 led) }) : SetAt knd h S [] := by
  refine ⟨_, 0, .fresh 0 0 led, e, ⟨rfl, rfl, rfl⟩, rfl, ⟨⟨?_, rfl⟩, whole7, rfl, ?_, ?_, ?_⟩, ⟨rfl, hl⟩, .inl ⟨rfl, by show 0 < 5; decide⟩, List.nodup_nil⟩
  · intro a b _ hb
    exact absurd hb (by show ¬ b < 0; omega)
  · intro j hj; cases hj
  · exact Nat.zero_le _
  · intro x hx; cases hx
/-- a new set, and how it is led -/
theorem set_new (a : Value) {Q : Value → Shared → Prop} (h : Q (.ref s.heap.objs.size) { s with heap := s.heap.push { cls := .type "set", dict := none, data := .set #[] 0 (.fresh 0 0 (!w.params.followText "set-order")) } }) :
    codeAny (model prog w) A (.call (.builtin "set.__new__") ⟨[.type "set", a], []⟩) (wants Q E) s := by
  refine codeAny_of_tree ?_
  show wpAny _ A.in1 (checkBuiltinCall "set.__new__" ⟨[.type "set", a], []⟩ >>= fun _ => again (.builtin "set.__new__" ⟨[.type "set", a], []⟩)) _ _ s
  refine wpAny_bind (wpAny_of_eq (F.newCall_set_1 a) (wpAny_pure ⟨plainId_quiet F.plain_set_new _, codeAny_builtin F.entry_set_new ?_⟩))
  rw [Around.under_plainId F.plain_set_new _]
  unfold Builtin.«set.__new__» Builtin.Frozenset.newClass
  have sub := sub_set_self
  obtain ⟨hp, g, d, tk, os⟩ := s
  dsimp only
  wp_walk
  refine wpAny_askSetting (wpAny_pure ?_)
  dsimp only
  simp only [newObj]
  exact wpAny_bind (wpAny_alloc (wpAny_pure (wpAny_pure h)))
set_option maxHeartbeats 3200000 in
theorem call_set {l : Addr} {xs : List (Addr × List K)} {Q : Value → Shared → Prop} (hh : A.handled = none) (hl : s.heap.IsList l (xs.map fun p => Value.ref p.1).toArray) (tups : ∀ p ∈ xs, IsTupleKey knd s.heap p.2 p.1) (hb : ByVal knd) (hu : A.units + 8 < cLine) (few : Few xs 75)
    (h : ∀ (h' : Heap) (tk : Nat) (ps : List (Addr × List K)), SetAt knd h' s.heap.objs.size ps → (∀ p ∈ ps, p ∈ xs) → (∀ p ∈ xs, ∃ q ∈ ps, q.2 = p.2) → (∀ b o, s.heap.get? b = some o → h'.get? b = some o) → Q (.ref s.heap.objs.size) { s with heap := h', toks := tk }) :
    wpAny (model prog w) A (call (.type "set") [.ref l]) Q E s := by
  have c1 := F.called_set.mro
  obtain ⟨c, tl, hmro⟩ := c1
  have hmade := F.called_set.made
  have hsub := F.called_set.sub
  refine wpAny_call (codeAny_of_tree ?_)
  show wpAny _ _ (callAny (.type "set") _) _ _ _
  refine wpAny_pure ⟨Code.quiet_builtin _ (by decide +kernel), codeAny_builtin F.entry_type_call ?_⟩
  rw [Around.under_plain (weight_type_call_type "set" [.ref l] []) rfl]
  have h1 := F.called_set.notType
  have h2 := F.called_set.canCreate
  have hct := F.typeCall_set_1 (.ref l)
  repeat (any_goals (first | assumption | wp_step))
  refine codeAny_mono (set_new (.ref l) (E := E) (Q := fun obj s₁ => ∃ led : Bool, led = (!w.params.followText "set-order") ∧ obj = .ref s.heap.objs.size ∧ s₁ = { s with heap := s.heap.push { cls := .type "set", dict := none, data := .set #[] 0 (.fresh 0 0 led) } }) ⟨_, rfl, rfl, rfl⟩) fun r s₁ hr => ?_
  match r, hr with
  | .error e, hr => exact hr
  | .ok (.ret obj), hr =>
    obtain ⟨led, hled, rfl, rfl⟩ := hr
    generalize hso : ({ cls := .type "set", dict := none, data := .set #[] 0 (.fresh 0 0 led) } : Obj) = so at *
    have hS : (s.heap.push so).get? s.heap.objs.size = some so := Heap.get?_push_size _ (by rw [← hso]; rfl)
    have hT : Shared.TypeIs { s with heap := s.heap.push so } (.ref s.heap.objs.size) "set" := ⟨_, hS, by rw [← hso]⟩
    have hli := F.called_set.init.lookup
    have hbi := F.called_set.init.bind (.ref s.heap.objs.size)
    repeat (any_goals (first | assumption | wp_step))
    refine codeAny_mono (codeAny_call_builtin (R := wants (fun r s₂ => r = .none ∧ ∃ h' tk, s₂ = { s with heap := h', toks := tk } ∧ ∃ ps, SetAt knd h' s.heap.objs.size ps ∧ (∀ p ∈ ps, p ∈ xs) ∧ (∀ p ∈ xs, ∃ q ∈ ps, q.2 = p.2) ∧ ∀ b o, s.heap.get? b = some o → h'.get? b = some o) E)
      F.called_set.init.plain F.entry_set_init (check_set_init_1 hT ?_)) fun r₂ s₂ hr₂ => ?_
    · obtain ⟨ol, hol, hcl, nl, hdl⟩ := hl
      obtain ⟨ocls, odict, odata, oslots⟩ := ol
      simp only at hcl hdl
      subst hcl; subst hdl
      have hol' := Heap.get?_push_of_some (h := s.heap) so hol
      have hsls := F.sub_list_set
      have hslf := F.sub_list_frozenset
      have hne : (Value.type "list" == Value.type "dict") = false := by decide
      have hl1 : (s.heap.push so).IsList l (xs.map fun p => Value.ref p.1).toArray := ⟨_, hol', rfl, nl, rfl⟩
      subst hso
      unfold Builtin.«set.__init__» noKeywords Builtin.Frozenset.updateFrom
      generalize hPI : pyIter = PI
      wp_walk
      subst hPI
      generalize hso : ({ cls := .type "set", dict := none, data := .set #[] 0 (.fresh 0 0 led) } : Obj) = so at *
      refine wpAny_pyIter_list hl1 ?_
      refine wpAny_bind (wpAny_runValue ?_)
      have hlS : l < s.heap.objs.size := Heap.lt_size hol
      have sz : (s.heap.push so).objs.size = s.heap.objs.size + 1 := Heap.size_push ..
      have hneI : l ≠ (s.heap.push so).objs.size := by rw [sz]; exact Nat.ne_of_lt (Nat.lt_succ_of_lt hlS)
      have hSf : s.heap.objs.size ∉ [(s.heap.push so).objs.size, l] := by
        rw [sz]
        simp only [List.mem_cons, List.not_mem_nil, or_false, not_or]
        exact ⟨Nat.ne_of_lt (Nat.lt_succ_self _), Nat.ne_of_gt hlS⟩
      have inI : ∀ p ∈ xs, p.1 < s.heap.objs.size := fun p hp => let ⟨_, _, _, ho, _⟩ := tups p hp; Heap.lt_size ho
      have hget2 := Heap.get?_push_of_some (h := s.heap.push so) { cls := .type "list_iterator", data := .fields #[.ref l, .int 0 0] } hS
      refine updLoop (knd := knd) (Walks.list (by simp [hh]) _ l hneI (xs.map fun p => Value.ref p.1).toArray) s.heap.objs.size hSf (xs := xs) (by simp) (fun i v hv => ?_) (fun p hp => ?_) hb (by show A.in1.in1.in1.units < cLine; simp only [Around.in1]; omega) few _ 0 _ [] rfl (Nat.zero_le _)
        ⟨⟨_, Heap.get?_push_size _ rfl, rfl, rfl⟩, hl1.push _⟩ (freshAt (led := led) hled (by rw [hso]; exact hget2)) (fun p hp => key_at (tups p hp) fun o e => Heap.get?_push_of_some _ (Heap.get?_push_of_some _ e)) (fun p hp => absurd hp (by simp)) (fun p hp => absurd hp (by simp)) fun h' tk ps kp hS' m1 m2 => ?_
      · simp at hv
        obtain ⟨a, ⟨b, hp⟩, rfl⟩ := hv
        exact ⟨(a, b), hp, rfl⟩
      · rw [sz]
        have := inI p hp
        simp only [List.mem_cons, List.not_mem_nil, or_false]
        exact Nat.ne_of_lt (Nat.lt_succ_of_lt this)
      · show wpAny _ _ _ _ _ _
        refine wpAny_pure ?_
        show wpAny _ _ (ret Value.none) _ _ _
        refine wpAny_pure ⟨rfl, h', tk, rfl, ps, hS', m1, m2, fun b o e => ?_⟩
        have hb := Heap.lt_size e
        refine kp b o (Nat.ne_of_lt hb) (by rw [sz]; simp only [List.mem_cons, List.not_mem_nil, or_false]; exact Nat.ne_of_lt (Nat.lt_succ_of_lt hb)) (Heap.get?_push_of_some _ (Heap.get?_push_of_some _ e))
    · match r₂, hr₂ with
      | .error e, hr₂ => exact hr₂
      | .ok (.ret r), hr₂ =>
        obtain ⟨rfl, h', tk, rfl, ps, hS', m1, m2, kp⟩ := hr₂
        repeat (any_goals (first | assumption | wp_step))
        exact h _ _ ps hS' m1 m2 kp
end
end TB

namespace TB
open PySem PySem.Spec

namespace SF
theorem slot_next : Slot "set_iterator" "__next__" "set_iterator.__next__" :=
  .of (owner := "set_iterator") (n := "__next__") (by rw [typeLookup_type, builtinLookup_eq_fast]; kernel_rfl) (by decide +kernel) (by decide +kernel) (by decide +kernel) (by first | exact .inl (by decide +kernel) | exact .inr (by decide +kernel)) (by rw [isSubtype_type]; kernel_rfl)
theorem entry_next : entryFor table "set_iterator.__next__" = some Builtin.«set_iterator.__next__» := entryFor_of_fast (by kernel_rfl)
theorem args_next (a : Value) : argsOk "set_iterator.__next__" ⟨[a], []⟩ := by unfold argsOk; kernel_rfl
theorem entry_iter : entryFor table "set.__iter__" = some Builtin.«frozenset.__iter__» := entryFor_alias (id' := "frozenset.__iter__") (by kernel_rfl) rfl (by decide +kernel) (by kernel_rfl)
end SF
theorem erase_perm {α : Type} : ∀ (l : List α) (i : Nat) (h : i < l.length), (l[i] :: l.eraseIdx i).Perm l
  | x :: xs, 0, _ => List.Perm.refl _
  | x :: xs, i + 1, h => (List.Perm.swap _ _ _).trans ((erase_perm xs i (by simpa using h)).cons x)
theorem pick_go_perm {α : Type} (next : Nat → Nat) : ∀ (fuel k : Nat) (left : List α) (out : Array α), left.length ≤ fuel → (pickOrder.go next fuel k left out).toList.Perm (out.toList ++ left)
  | 0, k, left, out, h => by
    have : left = [] := List.length_eq_zero_iff.mp (by omega)
    subst this
    unfold pickOrder.go
    simp
  | fuel + 1, k, [], out, h => by
    unfold pickOrder.go
    simp
  | fuel + 1, k, x :: xs, out, h => by
    have hlt : next k % (x :: xs).length < (x :: xs).length := Nat.mod_lt _ (by simp)
    unfold pickOrder.go
    rw [List.getElem?_eq_getElem hlt]
    refine (pick_go_perm next fuel (k + 1) _ _ (by rw [List.length_eraseIdx_of_lt hlt]; simp at h ⊢; omega)).trans ?_
    rw [Array.toList_push, List.append_assoc]
    exact List.Perm.append_left _ (erase_perm _ _ hlt)
theorem pick_perm {α : Type} (next : Nat → Nat) (xs : Array α) : (pickOrder next xs).toList.Perm xs.toList := by
  have := pick_go_perm next xs.size 0 xs.toList #[] (by simp)
  show (pickOrder.go next xs.size 0 xs.toList #[]).toList.Perm xs.toList
  simpa using this
section
variable {prog : Program} {w : World} {K : Type} [DecidableEq K] {knd : KeyKind prog w K} {A : Around} {E : Value → Shared → Prop} {s : Shared}
/-- the order in which a set is walked -/
def walkOrder (w : World) (S : Addr) (ep : Nat) (es : Array (Int × Value)) : Array (Int × Value) := if w.params.followText "set-order" = true then pickOrder (w.params.setOrder S ep) es else es
theorem walk_perm (w : World) (S : Addr) (ep : Nat) (es : Array (Int × Value)) : (walkOrder w S ep es).toList.Perm es.toList := by
  unfold walkOrder
  split
  · exact pick_perm _ _
  · exact List.Perm.refl _
/-- an iterator at its i-th item -/
structure IterAt (w : World) (h : Heap) (I S : Addr) (t : SetTable) (n ep i : Nat) : Prop where
  at_ : ∃ slot : Nat, h.get? I = some { cls := .type "set_iterator", dict := none, data := .fields #[rawInt slot, rawInt i, .ref S, rawInt n, rawInt ep], slots := #[] } ∧ (w.params.followText "set-order" = false → SetTable.below t.place slot = i)
theorem IterAt.typeIs {I S : Addr} {t : SetTable} {n ep i : Nat} (x : IterAt w s.heap I S t n ep i) : s.TypeIs (.ref I) "set_iterator" := by
  obtain ⟨slot, e, _⟩ := x.at_
  exact ⟨_, e, rfl⟩
variable {S I : Addr} {o : Obj} {es : Array (Int × Value)} {ep : Nat} {t : SetTable}
theorem setsBy {Q : Bool → Shared → Prop} (h : Q (w.params.followText "set-order") s) : wpAny (model prog w) A setsByText Q E s := by
  unfold setsByText
  exact wpAny_bind (wpAny_askSetting (wpAny_pure h))
/-- setNext, wherever the iterator stands -/
theorem next_of {slot i : Nat} {Q : Option (Value × Nat) → Shared → Prop} (ho : s.heap.get? S = some o) (hd : o.data = .set es ep t) (hf : t.fits es.size = true) (hr : Rise t.place) (hp : t.plain = true) (hl : t.led = !w.params.followText "set-order") (hs : w.params.followText "set-order" = false → SetTable.below t.place slot = i)
    (h1 : ∀ v, ((walkOrder w S ep es)[i]?).map (·.2) = some v → ∀ slot', (w.params.followText "set-order" = false → SetTable.below t.place slot' = i + 1) → Q (some (v, slot')) s) (h2 : (walkOrder w S ep es)[i]? = none → Q none s) : wpAny (model prog w) A (setNext S slot i ep) Q E s := by
  have hsz : t.place.size = es.size := by
    simp only [SetTable.fits, Bool.and_eq_true, beq_iff_eq] at hf
    exact hf.1
  unfold setNext
  refine wpAny_bind (wpAny_setState_of ho hd hf ?_)
  dsimp only
  refine wpAny_bind (setsBy ?_)
  cases c : w.params.followText "set-order" with
  | true =>
    have ord : walkOrder w S ep es = pickOrder (w.params.setOrder S ep) es := by unfold walkOrder; rw [if_pos c]
    rw [ord] at h1 h2
    simp only [if_true, bne_self_eq_false, Bool.false_eq_true, if_false]
    unfold setWalk
    refine wpAny_bind (wpAny_bind (wpAny_setState_of ho hd hf ?_))
    dsimp only
    refine wpAny_bind (setsBy ?_)
    rw [c, if_pos rfl]
    refine wpAny_bind (wpAny_askSetting (wpAny_pure ?_))
    refine wpAny_pure ?_
    show Q (((pickOrder (w.params.setOrder S ep) es)[i]?).map fun e => (e.2, slot)) s
    cases e : (pickOrder (w.params.setOrder S ep) es)[i]? with
    | none => exact h2 e
    | some x => exact h1 x.2 (by rw [e]; rfl) slot fun z => by rw [c] at z; cases z
  | false =>
    have ord : walkOrder w S ep es = es := by unfold walkOrder; rw [c]; rfl
    rw [ord] at h1 h2
    have hl' : t.led = true := by rw [hl, c]; rfl
    have hb := hs c
    simp only [Bool.false_eq_true, if_false]
    show wpAny _ _ (if (!t.plain && decide (es.size > 1)) = true then _ else _) _ _ _
    rw [hp, if_neg (by simp)]
    show wpAny _ _ ((if (!t.led && !es.isEmpty) = true then _ else _) >>= _) _ _ _
    rw [hl', if_neg (by simp)]
    refine wpAny_bind (wpAny_pure ?_)
    refine wpAny_pure ?_
    rw [hb]
    cases e : es[i]? with
    | none => exact h2 e
    | some x =>
      have hi : i < es.size := by
        rcases Nat.lt_or_ge i es.size with q | q
        · exact q
        · rw [Array.getElem?_eq_none q] at e; cases e
      have hi2 : i < t.place.size := by omega
      rw [Array.getElem?_eq_getElem hi2]
      refine h1 x.2 (by rw [e]; rfl) _ fun _ => ?_
      -- the slot behind the i-th one
      obtain ⟨b1, b2, b3⟩ := below_spec hr (t.place[i] + 1)
      have gi : t.place.getD i 0 = t.place[i] := by simp [Array.getD, hi2]
      rcases Nat.lt_trichotomy (SetTable.below t.place (t.place[i] + 1)) (i + 1) with q | q | q
      · have := b3 i (by omega) hi2
        rw [gi] at this; omega
      · exact q
      · have := b2 (i + 1) q
        have h3 := hr i (i + 1) (by omega) (by omega)
        rw [gi] at h3; omega
end
end TB

namespace TB
open PySem PySem.Spec
namespace SF
theorem slot_iter2 : Slot "set_iterator" "__iter__" "set_iterator.__iter__" :=
  .of (owner := "set_iterator") (n := "__iter__") (by rw [typeLookup_type, builtinLookup_eq_fast]; kernel_rfl) (by decide +kernel) (by decide +kernel) (by decide +kernel) (by first | exact .inl (by decide +kernel) | exact .inr (by decide +kernel)) (by rw [isSubtype_type]; kernel_rfl)
theorem entry_iter2 : entryFor table "set_iterator.__iter__" = some Builtin.«dict_keyiterator.__iter__» := entryFor_alias (id' := "dict_keyiterator.__iter__") (by kernel_rfl) rfl (by decide +kernel) (by kernel_rfl)
theorem args_iter2 (a : Value) : argsOk "set_iterator.__iter__" ⟨[a], []⟩ := by unfold argsOk; kernel_rfl
end SF
section
variable {prog : Program} {w : World} {K : Type} [DecidableEq K] {knd : KeyKind prog w K} {A : Around} {E : Value → Shared → Prop} {s : Shared}
variable {S I : Addr} {o : Obj} {es : Array (Int × Value)} {ep : Nat} {t : SetTable}
/-- what a walk needs of the set's object -/
structure Calm (w : World) (o : Obj) (es : Array (Int × Value)) (ep : Nat) (t : SetTable) : Prop where
  ex : o.ExactSet
  data : o.data = .set es ep t
  fits : t.fits es.size = true
  rise : Rise t.place
  plain : t.plain = true
  led : t.led = !w.params.followText "set-order"
theorem walk_size (w : World) (S : Addr) (ep : Nat) (es : Array (Int × Value)) : (walkOrder w S ep es).size = es.size := by
  have := (walk_perm w S ep es).length_eq
  simpa using this
theorem walks (hh : A.handled = none) (I S : Addr) (hne : S ≠ I) (C : Calm w o es ep t) :
    Walks prog w A I [I, S] [I] es.size (fun i v => ((walkOrder w S ep es)[i]?).map (·.2) = some v) (fun i h => IterAt w h I S t es.size ep i ∧ h.get? S = some o) where
  sub := fun b hb => by simp at hb; simp [hb]
  frame := fun i h h' st hk => by
    obtain ⟨⟨slot, e, z⟩, e2⟩ := st
    exact ⟨⟨slot, hk I (by simp) _ e, z⟩, hk S (by simp) _ e2⟩
  item := fun i s Q E hi st hQ => by
    obtain ⟨it, ho⟩ := st
    obtain ⟨slot, e, z⟩ := id it.at_
    unfold pyNext
    refine wpAny_bind (wpAny_attempt (wpAny_callSpecial?_slot (name := Str.ofString "__next__") it.typeIs SF.slot_next (wpAny_call_entry SF.slot_next it.typeIs SF.entry_next ?_ (SF.args_next _))))
    refine wpAny_bind (wpAny_pure ?_)
    refine wpAny_bind (wpAny_fieldsOf e rfl ?_)
    show wpAny _ _ (setEntries S >>= _) _ _ _
    unfold setEntries
    refine wpAny_bind (wpAny_bind (wpAny_setState_of ho C.data C.fits (wpAny_pure ?_)))
    rw [if_neg (by simp)]
    show wpAny _ _ (setNext S slot i ep >>= _) _ _ _
    refine wpAny_bind (next_of ho C.data C.fits C.rise C.plain C.led z (fun v hv slot' z' => ?_) fun no => ?_)
    · dsimp only
      refine wpAny_bind (wpAny_setField e rfl (by show 0 < 5; decide) ?_)
      have e1 := Heap.get?_update_self (Obj.mapFields (·.setIfInBounds 0 (rawInt (slot' : Nat)))) e rfl
      refine wpAny_bind (wpAny_setField e1 rfl (by show 1 < 5; decide) ?_)
      have e2 := Heap.get?_update_self (Obj.mapFields (·.setIfInBounds 1 (rawInt ((i : Int) + 1)))) e1 rfl
      refine wpAny_pure ⟨_, rfl, ?_⟩
      refine wpAny_pure (hQ v _ s.toks hv ⟨⟨slot', e2, z'⟩, ?_⟩ fun b o' hb e' => ?_)
      · exact (Heap.get?_update_other _ _ hne.symm).trans ((Heap.get?_update_other _ _ hne.symm).trans ho)
      · have : I ≠ b := fun z => hb (by simp [z])
        exact (Heap.get?_update_other _ _ this).trans ((Heap.get?_update_other _ _ this).trans e')
    · have : (walkOrder w S ep es)[i]? ≠ none := by
        rw [Array.getElem?_eq_getElem (by rw [walk_size]; exact hi)]
        simp
      exact absurd no this
  done := fun s Q E st hQ => by
    obtain ⟨it, ho⟩ := st
    obtain ⟨slot, e, z⟩ := id it.at_
    unfold pyNext
    refine wpAny_bind (wpAny_attempt (wpAny_callSpecial?_slot (name := Str.ofString "__next__") it.typeIs SF.slot_next (wpAny_call_entry SF.slot_next it.typeIs SF.entry_next ?_ (SF.args_next _))))
    refine wpAny_bind (wpAny_pure ?_)
    refine wpAny_bind (wpAny_fieldsOf e rfl ?_)
    show wpAny _ _ (setEntries S >>= _) _ _ _
    unfold setEntries
    refine wpAny_bind (wpAny_bind (wpAny_setState_of ho C.data C.fits (wpAny_pure ?_)))
    rw [if_neg (by simp)]
    show wpAny _ _ (setNext S slot es.size ep >>= _) _ _ _
    refine wpAny_bind (next_of ho C.data C.fits C.rise C.plain C.led z (fun v hv slot' z' => ?_) fun no => ?_)
    · rw [Array.getElem?_eq_none (by rw [walk_size]; exact Nat.le_refl _)] at hv
      cases hv
    · dsimp only
      refine wpAny_bind (wpAny_setField e rfl (by show 2 < 5; decide) ?_)
      refine wpAny_bind ?_
      simp only [newExc, newTuple]
      refine wpAny_bind (wpAny_newObj_type ?_ (by size_fits))
      refine wpAny_bind (m := firstArgMember _ _) (wpAny_of_eq (a := Value.none) (by first | rfl | (simp only [firstArgMember]; rfl)) ?_)
      refine wpAny_newObj_type ?_ (by size_fits)
      simp only [raiseNew]
      refine wpAny_bind (wpAny_handled ?_)
      rw [show A.in1.handled = none from hh]
      refine wpAny_bind (wpAny_pure (wpAny_throw ?_))
      refine wpAny_bind (wpAny_isInstance (T := "StopIteration") (b := true) ⟨_, Heap.get?_push_size _ rfl, rfl⟩ isSubtype_stop ?_)
      refine wpAny_pure (hQ _ s.toks fun b o' hb e' => ?_)
      have : I ≠ b := fun z => hb (by simp [z])
      exact Heap.get?_push_of_some _ (Heap.get?_push_of_some _ ((Heap.get?_update_other _ _ this).trans e'))
  self := fun i s Q E st hQ => by
    have hT := st.1.typeIs (s := s)
    refine wpAny_pyIter_slot hT SF.slot_iter2 (wpAny_call_entry SF.slot_iter2 hT SF.entry_iter2 ?_ (SF.args_iter2 _))
    exact wpAny_pure ⟨_, rfl, "set_iterator", _, hT, SF.slot_next.lookup, hQ⟩
end
end TB

namespace TB
open PySem PySem.Spec
section
variable {prog : Program} {w : World} {K : Type} [DecidableEq K] {knd : KeyKind prog w K} {A : Around} {E : Value → Shared → Prop} {s : Shared}
variable {S : Addr} {o : Obj} {es : Array (Int × Value)} {ep : Nat} {t : SetTable}
theorem iter_set {Q : Value → Shared → Prop} (ho : s.heap.get? S = some o) (C : Calm w o es ep t)
    (h : ∀ h', h' = s.heap.push { cls := .type "set_iterator", dict := none, data := .fields #[rawInt (0 : Nat), rawInt (0 : Nat), .ref S, rawInt es.size, rawInt ep], slots := #[] } → Q (.ref s.heap.objs.size) { s with heap := h' }) : wpAny (model prog w) A (pyIter (.ref S)) Q E s := by
  have hT : s.TypeIs (.ref S) "set" := ⟨o, ho, C.ex.1⟩
  refine wpAny_pyIter_slot hT F.slot_set_iter (wpAny_call_entry F.slot_set_iter hT SF.entry_iter ?_ (F.args_set_iter_1 _))
  show wpAny _ _ (Builtin.Frozenset.slot0 "__iter__" ⟨[.ref S], []⟩ >>= _) _ _ _
  refine wpAny_bind (wpAny_bind (wpAny_pure (wpAny_pure ?_)))
  unfold Builtin.Frozenset.sizeOf setEntries
  refine wpAny_bind (wpAny_bind (wpAny_bind (wpAny_setState_of ho C.data C.fits (wpAny_pure (wpAny_pure ?_)))))
  refine wpAny_bind ?_
  unfold setDrawn
  refine wpAny_bind (wpAny_setState_of ho C.data C.fits ?_)
  dsimp only
  refine wpAny_bind (setsBy ?_)
  refine wpAny_pure ?_
  show wpAny _ _ (if (!w.params.followText "set-order" && (!t.plain && decide (es.size > 1))) = true then _ else _) _ _ _
  rw [C.plain, if_neg (by simp)]
  refine wpAny_bind (wpAny_pure ?_)
  unfold setEpoch
  refine wpAny_bind (wpAny_bind (wpAny_setState_of ho C.data C.fits (wpAny_pure ?_)))
  refine wpAny_bind (wpAny_newObj_type ?_ (by size_fits))
  refine wpAny_pure ⟨_, rfl, "set_iterator", _, ⟨_, Heap.get?_push_size _ rfl, rfl⟩, SF.slot_next.lookup, h _ rfl⟩
theorem hint_set {Q : Bool → Shared → Prop} (ho : s.heap.get? S = some o) (C : Calm w o es ep t) (h : Q false s) : wpAny (model prog w) A (Builtin.List.listLengthHint (.ref S)) Q E s := by
  have hT : s.TypeIs (.ref S) "set" := ⟨o, ho, C.ex.1⟩
  unfold Builtin.List.listLengthHint
  refine wpAny_bind (wpAny_specialOf hT F.slot_set_len.lookup ?_)
  have sp : splitId "set.__len__" = some ("set", "__len__") := by decide +kernel
  dsimp only
  rw [sp]
  dsimp only
  refine wpAny_bind (wpAny_isInstance hT sub_set_self ?_)
  simp only [Bool.not_true, Bool.false_eq_true, if_false]
  rw [if_pos (by decide +kernel)]
  refine wpAny_bind (wpAny_typeOf hT ?_)
  exact wpAny_pure h
set_option maxHeartbeats 4000000 in
theorem collect_set {Q : List Value → Shared → Prop} (hh : A.handled = none) (ho : s.heap.get? S = some o) (C : Calm w o es ep t) (hz : es.size ≤ sizeLine)
    (h : ∀ h' tk vs, (∀ b o, s.heap.get? b = some o → h'.get? b = some o) → s.heap.objs.size ≤ h'.objs.size → vs = (walkOrder w S ep es).toList.map (·.2) → Q vs { s with heap := h', toks := tk }) : wpAny (model prog w) A (collect (.ref S)) Q E s := by
  have hSlt : S < s.heap.objs.size := Heap.lt_size ho
  unfold collect
  refine wpAny_bind (wpAny_runValue (codeAny_builtin F.entry_proto_collect ?_))
  rw [Around.under_plainId F.plain_proto_collect _]
  show wpAny _ A.in1 (newList [] >>= fun l => again (.builtin "list.__iadd__" ⟨[l, .ref S], []⟩)) _ _ s
  refine wpAny_bind (wpAny_newObj_type ?_)
  refine wpAny_pure ⟨plainId_quiet F.plain_list_iadd _, codeAny_builtin F.entry_list_iadd ?_⟩
  rw [Around.under_plainId F.plain_list_iadd _]
  show wpAny _ A.in1 (Builtin.List.listExtendWith (.ref s.heap.objs.size) (.ref S) (.ref s.heap.objs.size)) _ _ _
  generalize hlo : ({ cls := .type "list", data := .seq ([] : List Value).toArray } : Obj) = lo
  have hL : (s.heap.push lo).get? s.heap.objs.size = some lo := Heap.get?_push_size _ (by rw [← hlo]; rfl)
  have hS1 : (s.heap.push lo).get? S = some o := Heap.get?_push_of_some _ ho
  unfold Builtin.List.listExtendWith
  refine wpAny_bind (wpAny_typeOf (T := "set") ⟨o, hS1, C.ex.1⟩ ?_)
  have h1 : Builtin.List.listSameRef (.ref s.heap.objs.size) (.ref S) = false := by
    simp only [Builtin.List.listSameRef]
    exact beq_false_of_ne (Nat.ne_of_gt hSlt)
  have h2 : (Value.type "set" == Value.type "list") = false := by decide
  have h3 : (Value.type "set" == Value.type "tuple") = false := by decide
  simp only [h1, h2, h3, Bool.or_false, Bool.false_eq_true, if_false]
  refine wpAny_bind (iter_set (s := { s with heap := s.heap.push lo }) hS1 C fun h' e => ?_)
  subst e
  have sz : (s.heap.push lo).objs.size = s.heap.objs.size + 1 := Heap.size_push ..
  generalize hio : ({ cls := .type "set_iterator", dict := none, data := .fields #[rawInt (0 : Nat), rawInt (0 : Nat), .ref S, rawInt es.size, rawInt ep], slots := #[] } : Obj) = io
  have hS2 : ((s.heap.push lo).push io).get? S = some o := Heap.get?_push_of_some _ hS1
  have hL2 : ((s.heap.push lo).push io).get? s.heap.objs.size = some lo := Heap.get?_push_of_some _ hL
  have hI2 : ((s.heap.push lo).push io).get? (s.heap.push lo).objs.size = some io := Heap.get?_push_size _ (by rw [← hio]; rfl)
  refine wpAny_bind (wpAny_holding (hint_set (s := { s with heap := (s.heap.push lo).push io }) hS2 C ?_))
  rw [if_pos (by decide +kernel)]
  refine wpAny_bind (wpAny_rule ?_)
  refine wpAny_bind ?_
  have hLd : lo.data = .seq #[] 0 := by rw [← hlo]
  show wpAny _ A.in1 (updateSeq s.heap.objs.size (·.push .none) >>= fun _ => updateSeq s.heap.objs.size (·.pop)) _ _ _
  subst hlo
  refine wpAny_bind (wpAny_updateSeq hL2 rfl ?_)
  have hL3 := Heap.get?_update_self (Obj.mapSeq (·.push Value.none)) hL2 rfl
  refine wpAny_updateSeq hL3 rfl ?_
  have hL4 := Heap.get?_update_self (Obj.mapSeq (·.pop)) hL3 rfl
  have neI : (s.heap.push { cls := .type "list", data := .seq ([] : List Value).toArray }).objs.size ≠ s.heap.objs.size := by rw [sz]; exact Nat.ne_of_gt (Nat.lt_succ_self _)
  have oth : ∀ (h : Heap) b o, b ≠ s.heap.objs.size → h.get? b = some o → ((h.update s.heap.objs.size (Obj.mapSeq (·.push Value.none))).update s.heap.objs.size (Obj.mapSeq (·.pop))).get? b = some o := fun h b o hb e => (Heap.get?_update_other _ _ (Ne.symm hb)).trans ((Heap.get?_update_other _ _ (Ne.symm hb)).trans e)
  have hneSI : S ≠ (s.heap.push { cls := .type "list", data := .seq ([] : List Value).toArray }).objs.size := by rw [sz]; exact Nat.ne_of_lt (Nat.lt_succ_of_lt hSlt)
  have W := walks (prog := prog) (A := A.in1) (by simp [hh]) (s.heap.push { cls := .type "list", data := .seq ([] : List Value).toArray }).objs.size S hneSI C
  have hI4 := oth _ _ _ neI hI2
  have hS4 := oth _ _ _ (Nat.ne_of_lt hSlt) hS2
  have keep4 : ∀ b o', s.heap.get? b = some o' → ((((s.heap.push { cls := .type "list", data := .seq ([] : List Value).toArray }).push io).update s.heap.objs.size (Obj.mapSeq (·.push Value.none))).update s.heap.objs.size (Obj.mapSeq (·.pop))).get? b = some o' := fun b o' e => oth _ _ _ (Nat.ne_of_lt (Heap.lt_size e)) (Heap.get?_push_of_some _ (Heap.get?_push_of_some _ e))
  have hL5 : ∃ c, ((((s.heap.push { cls := .type "list", data := .seq ([] : List Value).toArray }).push io).update s.heap.objs.size (Obj.mapSeq (·.push Value.none))).update s.heap.objs.size (Obj.mapSeq (·.pop))).get? s.heap.objs.size = some { cls := .type "list", dict := none, data := .seq #[] c, slots := #[] } := ⟨_, hL4⟩
  clear hL4 hL3 oth
  show wpAny (model prog w) A.in1 (again (.builtin "list.extend.loop" ⟨[.ref s.heap.objs.size, .ref (s.heap.push { cls := .type "list", data := .seq ([] : List Value).toArray }).objs.size, .ref s.heap.objs.size], []⟩)) _ _ { s with heap := (((s.heap.push { cls := .type "list", data := .seq ([] : List Value).toArray }).push io).update s.heap.objs.size (Obj.mapSeq (·.push Value.none))).update s.heap.objs.size (Obj.mapSeq (·.pop)) }
  generalize ((((s.heap.push { cls := .type "list", data := .seq ([] : List Value).toArray }).push io).update s.heap.objs.size (Obj.mapSeq (·.push Value.none))).update s.heap.objs.size (Obj.mapSeq (·.pop))) = h4 at *
  generalize (s.heap.push { cls := .type "list", data := .seq ([] : List Value).toArray }).objs.size = I at *
  obtain ⟨c5, hL5⟩ := hL5
  subst hio
  have hb0 : SetTable.below t.place 0 = 0 := by
    obtain ⟨b1, b2, b3⟩ := below_spec C.rise 0
    rcases Nat.eq_zero_or_pos (SetTable.below t.place 0) with q | q
    · exact q
    · have := b2 0 q
      omega
  have st0 : (fun i (s : Shared) => IterAt w s.heap I S t es.size ep i ∧ s.heap.get? S = some o) 0 { s with heap := h4 } := ⟨⟨0, hI4, fun _ => hb0⟩, hS4⟩
  refine wpAny_pure ⟨plainId_quiet F.plain_extend_loop _, codeAny_extend_loopS W.toS hz s.heap.objs.size ?_ _ es.size 0 { s with heap := h4 } #[] c5 rfl (Nat.zero_le _) st0 hL5 (ItemsOf.nil _) fun s' acc' c' hm hS' hacc => ?_⟩
  · simp only [List.mem_cons, List.not_mem_nil, or_false, not_or]
    exact ⟨neI.symm, Nat.ne_of_gt hSlt⟩
  · show wpAny _ A (load s.heap.objs.size >>= _) _ _ s'
    refine wpAny_bind (wpAny_load hS' ?_)
    obtain ⟨h', g', d', tk', os'⟩ := s'
    have eg : g' = s.gens := hm.gens
    have ed : d' = s.drawn := hm.drawn
    have eo : os' = s.os := hm.os
    subst eg; subst ed; subst eo
    have keep : ∀ b o', s.heap.get? b = some o' → h'.get? b = some o' := fun b o' e => by
      have hb := Heap.lt_size e
      refine hm.heap b o' ?_ (keep4 b o' e)
      simp only [List.mem_cons, List.not_mem_nil, or_false, not_or]
      exact ⟨Nat.ne_of_lt hb, by rw [sz]; exact Nat.ne_of_lt (Nat.lt_succ_of_lt hb)⟩
    refine wpAny_pure (h h' tk' _ keep (Nat.le_of_lt (Heap.lt_size hS')) (List.ext_getElem? fun j => ?_))
    rw [Array.getElem?_toList, List.getElem?_map, Array.getElem?_toList]
    have hwz := walk_size w S ep es
    rcases Nat.lt_or_ge j es.size with q | q
    · have hj : j < acc'.size := by rw [hacc.1]; exact q
      have := hacc.2 j acc'[j] (Array.getElem?_eq_getElem hj)
      rw [Array.getElem?_eq_getElem hj]
      exact this.symm
    · rw [Array.getElem?_eq_none (by rw [hacc.1]; exact q), Array.getElem?_eq_none (by rw [hwz]; exact q)]
      rfl
end
end TB


namespace TB
open PySem PySem.W PyProof.Rows
def run {α : Type} (r : Nat → Nat) : KasT α → α
  | .ret a => a
  | .ask i j k => run r (k (decide (r i < r j)))
theorem run_bind {α β : Type} (r : Nat → Nat) (f : α → KasT β) : ∀ t : KasT α, run r (t.bind f) = run r (f (run r t))
  | .ret _ => rfl
  | .ask i j k => run_bind r f (k (decide (r i < r j)))
/-- every question is about places below n; R holds of what comes out -/
def GA (n : Nat) {α : Type} (R : α → Prop) : KasT α → Prop
  | .ret a => R a
  | .ask i j k => i < n ∧ j < n ∧ ∀ b, GA n R (k b)
theorem GA.bind {n : Nat} {α β : Type} {R : α → Prop} {R' : β → Prop} {f : α → KasT β} (hf : ∀ a, R a → GA n R' (f a)) : ∀ t : KasT α, GA n R t → GA n R' (t.bind f)
  | .ret a, h => hf a h
  | .ask i j k, h => ⟨h.1, h.2.1, fun b => GA.bind hf (k b) (h.2.2 b)⟩
theorem wp_run' {n : Nat} {α : Type} {r : Nat → Nat} {cmp : Nat → Nat → (Bool → Shared → Prop) → Shared → Prop} {s : Shared} (hc : ∀ i j (C : Bool → Shared → Prop), i < n → j < n → C (decide (r i < r j)) s → cmp i j C s) {R : α → Prop} {Q : α → Shared → Prop} :
    ∀ t : KasT α, GA n R t → Q (run r t) s → t.kasWp cmp Q s
  | .ret a, _, h => h
  | .ask i j k, g, h => hc i j _ g.1 g.2.1 (wp_run' hc (k (decide (r i < r j))) (g.2.2 _) h)
def Lo (n : Nat) (p : Array Nat) : Prop := ∀ k, p.getD k 0 < n
theorem lo_swaps {n : Nat} (u v : Nat → Nat) : ∀ (l : List Nat) (p : Array Nat), Lo n p → Lo n (l.foldl (fun a k => a.swapIfInBounds (u k) (v k)) p)
  | [], p, h => h
  | k :: l, p, h => by
    refine lo_swaps u v l _ fun x => ?_
    show (p.swapIfInBounds (u k) (v k)).getD x 0 < n
    rw [Array.getD_eq_getD_getElem?]
    by_cases hi : u k < p.size
    · by_cases hj : v k < p.size
      · rw [getElem?_swapIB hi hj]
        split
        · rw [← Array.getD_eq_getD_getElem?]; exact h _
        · split
          · rw [← Array.getD_eq_getD_getElem?]; exact h _
          · rw [← Array.getD_eq_getD_getElem?]; exact h _
      · rw [Array.swapIfInBounds_def, dif_pos hi, dif_neg hj, ← Array.getD_eq_getD_getElem?]; exact h _
    · rw [Array.swapIfInBounds_def, dif_neg hi, ← Array.getD_eq_getD_getElem?]; exact h _
theorem Lo.rev {n : Nat} {p : Array Nat} (h : Lo n p) (i j : Nat) : Lo n (kas_rev p i j) := lo_swaps _ _ _ _ h
theorem Lo.bub {n : Nat} {p : Array Nat} (h : Lo n p) (i j : Nat) : Lo n (bubble p i j) := lo_swaps _ _ _ _ h
theorem ga_asc {n : Nat} {p : Array Nat} (h : Lo n p) : ∀ f m, GA n (fun _ => True) (kas_asc p f m)
  | 0, m => trivial
  | f + 1, m => ⟨h _, h _, fun b => by
    cases b with
    | true => exact trivial
    | false => exact ga_asc h f (m + 1)⟩
theorem ga_desc {n : Nat} : ∀ f (p : Array Nat) m q, Lo n p → GA n (fun x : Array Nat × Nat × Nat => Lo n x.1) (kas_desc f p m q)
  | 0, p, m, q, h => h
  | f + 1, p, m, q, h => ⟨h _, h _, fun b => by
    cases b with
    | true =>
      show GA n _ (if q > 0 then _ else _)
      split
      · exact ga_desc f _ _ _ (h.rev _ _)
      · exact ga_desc f _ _ _ h
    | false => exact ⟨h _, h _, fun d => by
        cases d with
        | true => exact h
        | false => exact ga_desc f _ _ _ h⟩⟩
theorem ga_tail3 {n m k : Nat} {p : Array Nat} (h : Lo n p) : GA n (fun x : Nat × Array Nat => Lo n x.2) (kas_tail3 m k p) := by
  unfold kas_tail3
  refine GA.bind (R := fun _ => True) (fun a _ => ?_) _ (ga_asc (h.rev _ _) _ _)
  exact h.rev _ _
theorem ga_descPart {n m k : Nat} {p : Array Nat} (h : Lo n p) : GA n (fun x : Nat × Array Nat => Lo n x.2) (kas_descPart m k p) := GA.bind (fun a ha => by
    split
    · exact ga_tail3 (ha.rev _ _)
    · exact ga_tail3 ha) _ (ga_desc _ _ _ _ h)
theorem ga_count {n k : Nat} {p : Array Nat} (h : Lo n p) : GA n (fun x : Nat × Array Nat => Lo n x.2) (kas_count k p) := GA.bind (fun a _ => by
    split
    · exact h
    · split
      · exact ⟨h _, h _, fun b => by
          cases b with
          | true => exact h
          | false => exact ga_descPart (h.rev _ _)⟩
      · exact ga_descPart h) _ (ga_asc h _ _)
theorem ga_place {n k : Nat} {p : Array Nat} (h : Lo n p) : ∀ f a b, GA n (fun _ => True) (kas_place p k f a b)
  | 0, a, b => trivial
  | f + 1, a, b => by
    unfold kas_place
    split
    · exact trivial
    · exact ⟨h _, h _, fun c => by
        cases c with
        | true => exact ga_place h f _ _
        | false => exact ga_place h f _ _⟩
theorem ga_bin {n : Nat} : ∀ f (p : Array Nat) k, Lo n p → GA n (fun _ => True) (kas_bin f p k)
  | 0, p, k, h => trivial
  | f + 1, p, k, h => GA.bind (fun l _ => ga_bin f _ _ (h.bub _ _)) _ (ga_place h _ _ _)
theorem ga_sort {n : Nat} (hn : 0 < n) : GA n (fun _ => True) (kas_sort n) := GA.bind (fun a ha => by
    split
    · exact ga_bin _ _ _ ha
    · exact trivial) _ (ga_count fun k => by
      rw [Array.getD_eq_getD_getElem?]
      by_cases c : k < n
      · simp [c]
      · simp [c, hn])
section
variable {r : Nat → Nat} {n : Nat}
/-- the ranks stand apart -/
structure Ok (r : Nat → Nat) (n : Nat) (p : Array Nat) : Prop where
  size : p.size = n
  inj : ∀ a b, a < n → b < n → r (p.getD a 0) = r (p.getD b 0) → a = b
theorem getD_of {p q : Array Nat} {k l : Nat} (h : p[k]? = q[l]?) : p.getD k 0 = q.getD l 0 := by
  rw [Array.getD_eq_getD_getElem?, Array.getD_eq_getD_getElem?, h]
theorem Ok.rev {p : Array Nat} (h : Ok r n p) {m : Nat} (hm : m ≤ n) : Ok r n (kas_rev p 0 m) ∧ ∀ k, (kas_rev p 0 m).getD k 0 = p.getD (if k < m then m - 1 - k else k) 0 := by
  have g : ∀ k, (kas_rev p 0 m).getD k 0 = p.getD (if k < m then m - 1 - k else k) 0 := fun k => by
    refine getD_of ?_
    unfold kas_rev
    rw [getElem?_mirror_all (by rw [h.size]; exact hm)]
    by_cases c : k < m
    · rw [if_pos ⟨Nat.zero_le _, c⟩, if_pos c]; congr 1; omega
    · rw [if_neg (by omega), if_neg c]
  refine ⟨⟨by unfold kas_rev; rw [mirror_size, h.size], fun a b ha hb e => ?_⟩, g⟩
  rw [g, g] at e
  have := h.inj _ _ (by split <;> omega) (by split <;> omega) e
  split at this <;> split at this <;> omega
theorem Ok.bub {p : Array Nat} (h : Ok r n p) {k l : Nat} (hk : k < n) (hl : l ≤ k) : Ok r n (bubble p k (k - l)) ∧ ∀ j, (bubble p k (k - l)).getD j 0 = p.getD (if j = l then k else if l < j ∧ j ≤ k then j - 1 else j) 0 := by
  have g : ∀ j, (bubble p k (k - l)).getD j 0 = p.getD (if j = l then k else if l < j ∧ j ≤ k then j - 1 else j) 0 := fun j => by
    refine getD_of ?_
    rw [getElem?_bubble (by rw [h.size]; exact hk) _ (by omega)]
    rw [show k - (k - l) = l by omega]
    split
    · rfl
    · split <;> rfl
  refine ⟨⟨by rw [bubble_size, h.size], fun a b ha hb e => ?_⟩, g⟩
  rw [g, g] at e
  have bd : ∀ j, j < n → (if j = l then k else if l < j ∧ j ≤ k then j - 1 else j) < n := fun j hj => by
    by_cases c1 : j = l
    · rw [if_pos c1]; exact hk
    · rw [if_neg c1]
      by_cases c2 : l < j ∧ j ≤ k
      · rw [if_pos c2]; omega
      · rw [if_neg c2]; exact hj
  have := h.inj _ _ (bd a ha) (bd b hb) e
  have ch : ∀ j, ∃ q, q = (if j = l then k else if l < j ∧ j ≤ k then j - 1 else j) ∧ (j = l → q = k) ∧ ((j ≠ l ∧ l < j ∧ j ≤ k) → q = j - 1) ∧ ((j ≠ l ∧ ¬ (l < j ∧ j ≤ k)) → q = j) := fun j => by
    refine ⟨_, rfl, fun c => if_pos c, fun c => ?_, fun c => ?_⟩
    · rw [if_neg c.1, if_pos c.2]
    · rw [if_neg c.1, if_neg c.2]
  obtain ⟨qa, ea, a1, a2, a3⟩ := ch a
  obtain ⟨qb, eb, b1, b2, b3⟩ := ch b
  rw [← ea, ← eb] at this
  omega
def Up (r : Nat → Nat) (p : Array Nat) (m : Nat) : Prop := ∀ t, 1 ≤ t → t < m → r (p.getD (t - 1) 0) < r (p.getD t 0)
theorem Up.lt {p : Array Nat} {m : Nat} (h : Up r p m) : ∀ d i, i + d + 1 < m → r (p.getD i 0) < r (p.getD (i + d + 1) 0)
  | 0, i, hi => by
    have := h (i + 1) (by omega) (by omega)
    rwa [show i + 1 - 1 = i by omega] at this
  | d + 1, i, hi => by
    have h1 := Up.lt h d i (by omega)
    have h2 := h (i + (d + 1) + 1) (by omega) hi
    rw [show i + (d + 1) + 1 - 1 = i + d + 1 by omega] at h2
    exact Nat.lt_trans h1 h2
theorem Up.lt' {p : Array Nat} {m i j : Nat} (h : Up r p m) (hij : i < j) (hj : j < m) : r (p.getD i 0) < r (p.getD j 0) := by
  have := h.lt (j - i - 1) i (by omega)
  rwa [show i + (j - i - 1) + 1 = j by omega] at this
theorem run_asc {p : Array Nat} (h : Ok r n p) : ∀ f m, 1 ≤ m → m + f = n → Up r p m → m ≤ run r (kas_asc p f m) ∧ run r (kas_asc p f m) ≤ n ∧ Up r p (run r (kas_asc p f m)) ∧ (run r (kas_asc p f m) < n → r (p.getD (run r (kas_asc p f m)) 0) < r (p.getD (run r (kas_asc p f m) - 1) 0))
  | 0, m, h1, e, u => ⟨Nat.le_refl _, by show m ≤ n; omega, u, fun (z : m < n) => by omega⟩
  | f + 1, m, h1, e, u => by
    unfold kas_asc run
    by_cases c : r (p.getD m 0) < r (p.getD (m - 1) 0)
    · rw [decide_eq_true c]; dsimp only; rw [if_pos rfl]
      exact ⟨Nat.le_refl _, by show m ≤ n; omega, u, fun _ => c⟩
    · rw [decide_eq_false c]; dsimp only; rw [if_neg (by decide)]
      have hne : r (p.getD (m - 1) 0) < r (p.getD m 0) := by
        rcases Nat.lt_or_ge (r (p.getD (m - 1) 0)) (r (p.getD m 0)) with q | q
        · exact q
        · have := h.inj (m - 1) m (by omega) (by omega) (by omega)
          omega
      obtain ⟨a1, a2, a3, a4⟩ := run_asc h f (m + 1) (by omega) (by omega) fun t ht1 ht2 => by
        by_cases ct : t = m
        · rw [ct]; exact hne
        · exact u t ht1 (by omega)
      exact ⟨by omega, a2, a3, a4⟩
def Down (r : Nat → Nat) (p : Array Nat) (m : Nat) : Prop := ∀ t, 1 ≤ t → t < m → r (p.getD t 0) < r (p.getD (t - 1) 0)
theorem run_desc {p : Array Nat} (h : Ok r n p) : ∀ f m, 2 ≤ m → m + f = n → Down r p m → ∃ m', run r (kas_desc f p m 0) = (p, m', 0) ∧ m ≤ m' ∧ m' ≤ n ∧ Down r p m'
  | 0, m, h1, e, d => ⟨m, rfl, Nat.le_refl _, by omega, d⟩
  | f + 1, m, h1, e, d => by
    unfold kas_desc run
    by_cases c : r (p.getD m 0) < r (p.getD (m - 1) 0)
    · rw [decide_eq_true c]; dsimp only; rw [if_pos rfl, if_neg (by omega)]
      obtain ⟨m', e1, e2, e3, e4⟩ := run_desc h f (m + 1) (by omega) (by omega) fun t ht1 ht2 => by
        by_cases ct : t = m
        · rw [ct]; exact c
        · exact d t ht1 (by omega)
      exact ⟨m', e1, by omega, e3, e4⟩
    · rw [decide_eq_false c]; dsimp only; rw [if_neg (by decide)]
      have hne : r (p.getD (m - 1) 0) < r (p.getD m 0) := by
        rcases Nat.lt_or_ge (r (p.getD (m - 1) 0)) (r (p.getD m 0)) with q | q
        · exact q
        · have := h.inj (m - 1) m (by omega) (by omega) (by omega)
          omega
      show ∃ m', run r (if decide (r (p.getD (m - 1) 0) < r (p.getD m 0)) = true then KasT.ret (p, m, 0) else kas_desc f p (m + 1) (0 + 1)) = (p, m', 0) ∧ _
      rw [decide_eq_true hne, if_pos rfl]
      exact ⟨m, rfl, Nat.le_refl _, by omega, d⟩
theorem run_tail3 {p : Array Nat} (h : Ok r n p) {m : Nat} (h1 : 1 ≤ m) (hm : m ≤ n) (d : Down r p m) : ∃ m' p', run r (kas_tail3 m n p) = (m', p') ∧ 1 ≤ m' ∧ m' ≤ n ∧ Ok r n p' ∧ Up r p' m' ∧ p'.Perm p := by
  obtain ⟨h', g⟩ := h.rev hm
  have u : Up r (kas_rev p 0 m) m := fun t ht1 ht2 => by
    rw [g, g, if_pos (by omega), if_pos ht2]
    have := d (m - 1 - (t - 1)) (by omega) (by omega)
    rwa [show m - 1 - (t - 1) - 1 = m - 1 - t by omega] at this
  obtain ⟨a1, a2, a3, _⟩ := run_asc h' (n - m) m h1 (by omega) u
  unfold kas_tail3
  rw [run_bind]
  exact ⟨_, _, rfl, by omega, a2, h', a3, mirror_perm _ _ _ _⟩
theorem run_count {p : Array Nat} (h : Ok r n p) (hn : 1 ≤ n) : ∃ m' p', run r (kas_count n p) = (m', p') ∧ 1 ≤ m' ∧ m' ≤ n ∧ Ok r n p' ∧ Up r p' m' ∧ p'.Perm p := by
  unfold kas_count
  rw [run_bind]
  obtain ⟨a1, a2, a3, a4⟩ := run_asc h (n - 1) 1 (Nat.le_refl _) (by omega) fun t h1 h2 => by omega
  generalize run r (kas_asc p (n - 1) 1) = m at *
  by_cases c : m = n
  · rw [if_pos (by simp [c])]
    exact ⟨m, p, rfl, a1, a2, h, a3, Array.Perm.refl _⟩
  · rw [if_neg (by simpa using c)]
    by_cases c2 : m > 1
    · rw [if_pos c2]
      unfold run
      rw [decide_eq_true (a3.lt' (show 0 < m - 1 by omega) (by omega))]; dsimp only; rw [if_pos rfl]
      exact ⟨m, p, rfl, a1, a2, h, a3, Array.Perm.refl _⟩
    · rw [if_neg c2]
      have e : m = 1 := by omega
      subst e
      unfold kas_descPart
      rw [run_bind]
      obtain ⟨m', e1, e2, e3, e4⟩ := run_desc h (n - (1 + 1)) 2 (by omega) (by omega) fun t h1 h2 => by
        have : t = 1 := by omega
        rw [this]
        exact a4 (by omega)
      rw [e1, if_neg (by show ¬ 0 > 0; omega)]
      exact run_tail3 (m := m') h (by omega) e3 e4
theorem run_place {p : Array Nat} (h : Ok r n p) {k : Nat} (hk : k < n) (u : Up r p k) : ∀ f a b, a ≤ b → b ≤ k → b - a ≤ f → (∀ t, t < a → r (p.getD t 0) < r (p.getD k 0)) → (∀ t, b ≤ t → t < k → r (p.getD k 0) < r (p.getD t 0)) →
    run r (kas_place p k f a b) ≤ k ∧ (∀ t, t < run r (kas_place p k f a b) → r (p.getD t 0) < r (p.getD k 0)) ∧ (∀ t, run r (kas_place p k f a b) ≤ t → t < k → r (p.getD k 0) < r (p.getD t 0))
  | 0, a, b, h1, h2, h3, l, g => ⟨by show a ≤ k; omega, l, fun t (ht : a ≤ t) hk => g t (by omega) hk⟩
  | f + 1, a, b, h1, h2, h3, l, g => by
    unfold kas_place
    by_cases c : a ≥ b
    · rw [if_pos c]
      exact ⟨by show a ≤ k; omega, l, fun t (ht : a ≤ t) hk => g t (by omega) hk⟩
    · rw [if_neg c]
      unfold run
      by_cases c2 : r (p.getD k 0) < r (p.getD ((a + b) / 2) 0)
      · rw [decide_eq_true c2]; dsimp only; rw [if_pos rfl]
        refine run_place h hk u f a _ (by omega) (by omega) (by omega) l fun t ht htk => ?_
        by_cases e : t = (a + b) / 2
        · rw [e]; exact c2
        · exact Nat.lt_trans c2 (u.lt' (by omega) htk)
      · rw [decide_eq_false c2]; dsimp only; rw [if_neg (by decide)]
        have hne : r (p.getD ((a + b) / 2) 0) < r (p.getD k 0) := by
          rcases Nat.lt_or_ge (r (p.getD ((a + b) / 2) 0)) (r (p.getD k 0)) with q | q
          · exact q
          · have := h.inj ((a + b) / 2) k (by omega) hk (by omega)
            omega
        refine run_place h hk u f _ b (by omega) h2 (by omega) (fun t ht => ?_) g
        by_cases e : t = (a + b) / 2
        · rw [e]; exact hne
        · exact Nat.lt_trans (u.lt' (show t < (a + b) / 2 by omega) (by omega)) hne
theorem run_bin : ∀ (f : Nat) (p : Array Nat) (k : Nat), Ok r n p → 1 ≤ k → k + f = n → Up r p k → ∃ p', run r (kas_bin f p k) = p' ∧ Ok r n p' ∧ Up r p' n ∧ p'.Perm p
  | 0, p, k, h, _, e, u => ⟨p, rfl, h, by have : k = n := (by omega); rw [← this]; exact u, Array.Perm.refl _⟩
  | f + 1, p, k, h, h1, e, u => by
    unfold kas_bin
    rw [run_bind]
    obtain ⟨b1, b2, b3⟩ := run_place h (show k < n by omega) u k 0 k (Nat.zero_le _) (Nat.le_refl _) (by omega) (fun t ht => by omega) fun t h1 h2 => by omega
    generalize run r (kas_place p k k 0 k) = l at *
    obtain ⟨h', g⟩ := h.bub (show k < n by omega) b1
    obtain ⟨p', e1, e2, e3, e4⟩ := run_bin f (bubble p k (k - l)) (k + 1) h' (by omega) (by omega) fun t ht1 ht2 => by
      rw [g, g]
      by_cases c1 : t < l
      · rw [if_neg (by omega), if_neg (by omega), if_neg (by omega), if_neg (by omega)]
        exact u t ht1 (by omega)
      · by_cases c2 : t = l
        · rw [if_neg (by omega), if_neg (by omega), if_pos c2]
          exact b2 _ (by omega)
        · by_cases c3 : t - 1 = l
          · rw [if_pos c3, if_neg c2, if_pos (by omega)]
            exact b3 _ (by omega) (by omega)
          · rw [if_neg c3, if_pos (by omega), if_neg c2, if_pos (by omega)]
            exact u (t - 1) (by omega) (by omega)
    exact ⟨p', e1, e2, e3, e4.trans (bubble_perm _ _ _)⟩
/-- the sort puts the ranks in order -/
theorem run_sort (hn : 1 ≤ n) (inj : ∀ a b, a < n → b < n → r a = r b → a = b) : ∃ p, run r (kas_sort n) = p ∧ p.size = n ∧ Up r p n ∧ p.Perm (List.range n).toArray := by
  have h0 : Ok r n (List.range n).toArray := ⟨by simp, fun a b ha hb e => by
    have ea : (List.range n).toArray.getD a 0 = a := by simp [Array.getD, ha]
    have eb : (List.range n).toArray.getD b 0 = b := by simp [Array.getD, hb]
    rw [ea, eb] at e
    exact inj a b ha hb e⟩
  unfold kas_sort
  rw [run_bind]
  obtain ⟨m, p, e, m1, m2, h, u, pm⟩ := run_count h0 hn
  rw [e]
  dsimp only
  by_cases c : m < n
  · rw [if_pos c]
    obtain ⟨p', e1, e2, e3, e4⟩ := run_bin (n - max m 1) p (max m 1) h (by omega) (by omega) (by rw [Nat.max_eq_left m1]; exact u)
    exact ⟨p', e1, e2.size, e3, e4.trans pm⟩
  · rw [if_neg c]
    have : m = n := by omega
    subst this
    exact ⟨p, rfl, h.size, u, pm⟩
end
end TB

namespace L2
open PySem PySem.Spec PyProof.Rows

/-- a key: an int or a str -/
abbrev Key := Sum Int Str
def keyIs : Key → Value → Bool
  | .inl k, v => Value.isInt k v
  | .inr x, v => Value.isStrOf x v
def keyH (w : World) : Key → Int
  | .inl k => hashInt k
  | .inr x => hashStr w x
theorem keyIs_shape : ∀ {k : Key} {v : Value}, keyIs k v = true → (∃ i t, k = Sum.inl i ∧ v = Value.int i t) ∨ (∃ x t, k = Sum.inr x ∧ v = Value.str x t)
  | .inl i, v, h => by
    obtain ⟨t, e⟩ := Value.isInt_shape (k := i) (v := v) h
    exact .inl ⟨i, t, rfl, e⟩
  | .inr x, v, h => by
    obtain ⟨t, e⟩ := Value.isStrOf_shape (x := x) (v := v) h
    exact .inr ⟨x, t, rfl, e⟩
theorem key_ll (a b : Int) : decide ((Sum.inl a : Key) = Sum.inl b) = (a == b) := by
  by_cases e : a = b
  · subst e; simp
  · have h : ¬ (Sum.inl a : Key) = Sum.inl b := fun q => e (Sum.inl.inj q)
    rw [decide_eq_false h]
    exact (beq_eq_false_iff_ne.mpr e).symm
theorem key_rr (a b : Str) : decide ((Sum.inr a : Key) = Sum.inr b) = decide (a = b) := by
  by_cases e : a = b
  · subst e; simp
  · have h : ¬ (Sum.inr a : Key) = Sum.inr b := fun q => e (Sum.inr.inj q)
    rw [decide_eq_false h, decide_eq_false e]
theorem key_lr (a : Int) (b : Str) : decide ((Sum.inl a : Key) = Sum.inr b) = false := decide_eq_false (fun q => nomatch q)
theorem key_rl (a : Str) (b : Int) : decide ((Sum.inr a : Key) = Sum.inl b) = false := decide_eq_false (fun q => nomatch q)

def mixKind (prog : Program) (w : World) : PySem.KeyKind prog w Key where
  is := keyIs
  hash := keyH w
  inj := fun v a b ha hb => by
    rcases keyIs_shape ha with ⟨i, t, rfl, rfl⟩ | ⟨x, t, rfl, rfl⟩
    · rcases keyIs_shape hb with ⟨j, u, rfl, e⟩ | ⟨y, u, rfl, e⟩
      · injection e with e1 _; rw [e1]
      · exact nomatch e
    · rcases keyIs_shape hb with ⟨j, u, rfl, e⟩ | ⟨y, u, rfl, e⟩
      · exact nomatch e
      · injection e with e1 _; rw [e1]
  byValue := fun k v h => by
    rcases keyIs_shape h with ⟨i, t, rfl, rfl⟩ | ⟨x, t, rfl, rfl⟩ <;> rfl
  pyHash := fun hv h => by
    rcases keyIs_shape hv with ⟨i, t, rfl, rfl⟩ | ⟨x, t, rfl, rfl⟩
    · exact wpAny_pyHash_int h
    · exact wpAny_pyHash_str h
  eqBool := fun hu hv h => by
    rcases keyIs_shape hu with ⟨i, t, rfl, rfl⟩ | ⟨x, t, rfl, rfl⟩
    · rcases keyIs_shape hv with ⟨j, u, rfl, rfl⟩ | ⟨y, u, rfl, rfl⟩
      · rw [key_ll] at h; exact wpAny_eqBool_int h
      · rw [key_lr] at h; exact SeqAt.EqAt.int_str i t y u _ _ _ _ h
    · rcases keyIs_shape hv with ⟨j, u, rfl, rfl⟩ | ⟨y, u, rfl, rfl⟩
      · rw [key_rl] at h; exact SeqAt.EqAt.str_int x t j u _ _ _ _ h
      · rw [key_rr] at h; exact wpAny_eqBool_str h
  «strs» := fun k x t v h => by
    rcases keyIs_shape h with ⟨i, u, rfl, e⟩ | ⟨y, u, rfl, e⟩
    · exact nomatch e
    · injection e with e1 _
      subst e1
      cases v <;> rfl

end L2

namespace L2
open PySem PySem.Spec PyProof.Rows

/-- a value, without the heap -/
inductive V where
  | non | bl (b : Bool) | int (i : Int) | str (x : Str) | byt (b : Array UInt8) | flt (b : UInt64) | ref (a : Addr) | ty (n : String)
  deriving DecidableEq

def RelV : V → Value → Prop
  | .non, u => u = Value.none
  | .bl b, u => u = Value.bool b
  | .int i, u => ∃ t, u = Value.int i t
  | .str x, u => ∃ t, u = Value.str x t
  | .byt b, u => ∃ t, u = Value.bytes b t
  | .flt b, u => ∃ t, u = Value.float b t
  | .ref a, u => u = Value.ref a
  | .ty n, u => u = Value.type n

abbrev Vals : List V → List Value → Prop := Paired RelV
theorem Vals.length {xs : List V} {us : List Value} (r : Vals xs us) : xs.length = us.length := Paired.length r
theorem Vals.get : ∀ {xs : List V} {us : List Value} {i : Nat} {x : V}, Vals xs us → xs[i]? = some x → ∃ u, us[i]? = some u ∧ RelV x u
  | _, _, _, _, .nil, e => by simp at e
  | _, _, 0, _, .cons r _, e => by simp at e; subst e; exact ⟨_, rfl, r⟩
  | _, _, i + 1, x, .cons _ t, e => by
    obtain ⟨u, h1, h2⟩ := Vals.get (i := i) (x := x) t (by simpa using e)
    exact ⟨u, by simpa using h1, h2⟩
theorem Vals.set {x : V} {u : Value} (r : RelV x u) : ∀ {xs : List V} {us : List Value} (i : Nat), Vals xs us → Vals (xs.set i x) (us.set i u)
  | _, _, _, .nil => .nil
  | _, _, 0, .cons _ t => .cons r t
  | _, _, i + 1, .cons q t => .cons q (Vals.set r i t)
theorem Vals.append : ∀ {xs ys : List V} {us ws : List Value}, Vals xs us → Vals ys ws → Vals (xs ++ ys) (us ++ ws)
  | _, _, _, _, .nil, s => s
  | _, _, _, _, .cons r t, s => .cons r (Vals.append t s)
theorem Vals.take : ∀ {xs : List V} {us : List Value} (n : Nat), Vals xs us → Vals (xs.take n) (us.take n)
  | _, _, 0, _ => .nil
  | _, _, _ + 1, .nil => .nil
  | _, _, n + 1, .cons r t => .cons r (Vals.take n t)
theorem Vals.drop : ∀ {xs : List V} {us : List Value} (n : Nat), Vals xs us → Vals (xs.drop n) (us.drop n)
  | _, _, 0, r => r
  | _, _, _ + 1, .nil => .nil
  | _, _, n + 1, .cons _ t => Vals.drop n t
def RelO : Option V → Option Value → Prop
  | some v, some u => RelV v u
  | none, none => True
  | _, _ => False
def KV {κ : Type} : List (κ × V) → List (κ × Value) → Prop := Paired fun (p : κ × V) (q : κ × Value) => p.1 = q.1 ∧ RelV p.2 q.2

/-- a key of a dict (00_mix): an int or a text -/
def kV : Key → V
  | .inl i => .int i
  | .inr x => .str x

/-- what stands at a tracked address -/
inductive HO where
  /-- a list -/
  | lst (xs : List V)
  /-- a tuple (never changes) -/
  | tup (xs : List V)
  /-- a dict whose keys are ints and texts; one whose keys are tuples of ints and texts (the empty one is both) -/
  | dK (kvs : List (Key × V)) | dT (kvs : List (List Key × V))
  /-- a set of ints: its members, its size -/
  | set (S : Int → Bool) (n : Nat)
  /-- an instance of the class at C, its dict at dx, its attributes -/
  | ins (C dx : Addr) (fs : List (Str × V))
  /-- the dict of the instance at x -/
  | own (x : Addr)
  /-- the dict of an exception -/
  | xd (fs : List (Str × V))
  /-- a bound method, f of x -/
  | met (f x : Addr)
  /-- a range object lo, lo + 1, .. below hi -/
  | rng (lo hi : Int)
  /-- a thing that is known to the object (the script; a dict while a loop walks it): read, never written while it is so -/
  | frz (o : Obj) (u : HO)
  /-- a code object's table -/
  | tbl (ps : Array Value)
  /-- any other thing, by what is true of its one object (a def of one's own: SetO a S n := HO.ext fun h => ..) -/
  | ext (φ : Heap → Prop)

abbrev Hp := Addr → Option HO
def upd (H : Hp) (a : Addr) (o : HO) : Hp := fun b => if b = a then some o else H b
theorem upd_same {H : Hp} {a : Addr} {o : HO} : upd H a o a = some o := by unfold upd; rw [if_pos rfl]
theorem upd_ne {H : Hp} {a b : Addr} {o : HO} (h : b ≠ a) : upd H a o b = H b := by unfold upd; rw [if_neg h]
theorem ne_of_none {H : Hp} {a b : Addr} {o : HO} (h : H a = some o) (h' : H b = none) : a ≠ b := by
  intro e; subst e; rw [h] at h'; cases h'

section
variable (P : Program) (w : World)
def ObjOk (H : Hp) (h : Heap) (a : Addr) : HO → Prop
  | .lst xs => xs.length ≤ sizeLine ∧ ∃ (its : List Value) (n : Nat), Vals xs its ∧ h.get? a = some { cls := .type "list", data := .seq its.toArray n }
  | .tup xs => xs.length ≤ sizeLine ∧ ∃ its : List Value, Vals xs its ∧ IsTup h a its.toArray
  | .dK kvs => kvs.length ≤ sizeLine ∧ (a == sysModules) = false ∧ ∃ vs, KV kvs vs ∧ h.DictOf (mixKind P w) a vs
  | .dT kvs => kvs.length ≤ sizeLine ∧ (a == sysModules) = false ∧ ∃ xs : List (List Key × Addr × Value),
      Paired (fun (p : List Key × V) (q : List Key × Addr × Value) => p.1 = q.1 ∧ H q.2.1 = some (.tup (p.1.map kV)) ∧ RelV p.2 q.2.2) kvs xs ∧
      ∃ o es ep, h.get? a = some o ∧ o.ExactDict ∧ o.data = .dict es ep ∧ es.toList = xs.map (entryOfKey (tupleKind (mixKind P w))) ∧ (xs.map (·.1)).Nodup
  | .set S n => h.SetOf (intKind P w) a S n
  | .ins C dx fs => H dx = some (.own a) ∧ fs.length ≤ 1000 ∧ dx ≠ a ∧ h.get? a = some (PySem.W.instObj C dx) ∧
      ∃ mA, h.Ns1 dx mA ∧ (∀ f, RelO (fs.lookup f) (mA f)) ∧ PySem.Within mA (fs.map (·.1))
  | .own _ => ∃ o, h.get? a = some o
  | .xd fs => ∃ mA, h.Ns1 a mA ∧ ∀ f, RelO (fs.lookup f) (mA f)
  | .rng lo hi => ∃ t u v, h.get? a = some { cls := .type "range", data := .fields #[.int lo t, .int hi u, .int 1 v] }
  | .frz o u => h.get? a = some o ∧ ObjOk H h a u
  | .tbl ps => h.get? a = some { cls := .none, data := .fields ps }
  | .met f x => h.get? a = some (PySem.W.methodObj (.ref f) (.ref x))
  | .ext φ => φ h ∧ (∃ o, h.get? a = some o) ∧ ∀ h1 h2 : Heap, φ h1 → (∀ o, h1.get? a = some o → h2.get? a = some o) → φ h2
/-- the abstract heap is held -/
def HOk (H : Hp) (h : Heap) : Prop := ∀ a o, H a = some o → ObjOk P w H h a o
end

section
variable {P : Program} {w : World} {H H' : Hp} {h h' : Heap} {a : Addr} {o : HO}
theorem ObjOk.lt (x : ObjOk P w H h a o) : a < h.objs.size := by
  cases o with
  | lst xs => obtain ⟨_, _, _, _, e⟩ := x; exact Heap.lt_size e
  | tup xs => obtain ⟨_, _, _, p⟩ := x; exact p.lt
  | dK kvs => obtain ⟨_, _, _, _, o, _, _, e, _⟩ := x; exact Heap.lt_size e
  | dT kvs => obtain ⟨_, _, _, _, o, _, _, e, _⟩ := x; exact Heap.lt_size e
  | set S n => obtain ⟨o, _, _, _, e, _⟩ := x; exact Heap.lt_size e
  | ins C dx fs => obtain ⟨_, _, _, e, _⟩ := x; exact Heap.lt_size e
  | own y => obtain ⟨_, e⟩ := x; exact Heap.lt_size e
  | xd fs => obtain ⟨_, ⟨_, _, _, e, _⟩, _⟩ := x; exact Heap.lt_size e
  | rng lo hi => obtain ⟨_, _, _, e⟩ := x; exact Heap.lt_size e
  | frz ob u => obtain ⟨e, _⟩ := x; exact Heap.lt_size e
  | tbl ps => exact Heap.lt_size (show h.get? a = some _ from x)
  | met f y => exact Heap.lt_size (show h.get? a = some _ from x)
  | ext φ => obtain ⟨_, ⟨_, e⟩, _⟩ := x; exact Heap.lt_size e
theorem Paired.mapP {α β : Type} {F G : α → β → Prop} : ∀ {l₁ : List α} {l₂ : List β}, Paired F l₁ l₂ → (∀ a b, F a b → G a b) → Paired G l₁ l₂
  | _, _, .nil, _ => .nil
  | _, _, .cons r t, f => .cons (f _ _ r) (Paired.mapP t f)
/-- what an object's description leans on: its own object, its own dict, the tuples -/
theorem ObjOk.stay (x : ObjOk P w H h a o) (k : ∀ b u, (b = a ∨ H b = some (.own a)) → h.get? b = some u → h'.get? b = some u)
    (ho : ∀ b, H b = some (.own a) → H' b = some (.own a)) (ht : ∀ b xs, H b = some (.tup xs) → H' b = some (.tup xs)) : ObjOk P w H' h' a o := by
  induction o with
  | lst xs => obtain ⟨z, its, n, r, e⟩ := x; exact ⟨z, its, n, r, k _ _ (.inl rfl) e⟩
  | tup xs => obtain ⟨z, its, r, ob, e, c⟩ := x; exact ⟨z, its, r, ob, k _ _ (.inl rfl) e, c⟩
  | dK kvs => obtain ⟨z, y, vs, r, ob, es, ep, e, c⟩ := x; exact ⟨z, y, vs, r, ob, es, ep, k _ _ (.inl rfl) e, c⟩
  | dT kvs =>
    obtain ⟨z, y, xs, r, ob, es, ep, e, c⟩ := x
    exact ⟨z, y, xs, Paired.mapP r fun p q z => ⟨z.1, ht _ _ z.2.1, z.2.2⟩, ob, es, ep, k _ _ (.inl rfl) e, c⟩
  | set S n => obtain ⟨ob, es, ep, t, e, c⟩ := x; exact ⟨ob, es, ep, t, k _ _ (.inl rfl) e, c⟩
  | ins C dx fs =>
    obtain ⟨d, z, ne, e, mA, ⟨od, es, ep, e2, c⟩, r⟩ := x
    exact ⟨ho _ d, z, ne, k _ _ (.inl rfl) e, mA, ⟨od, es, ep, k _ _ (.inr d) e2, c⟩, r⟩
  | own y => obtain ⟨ob, e⟩ := x; exact ⟨ob, k _ _ (.inl rfl) e⟩
  | xd fs => obtain ⟨mA, ⟨od, es, ep, e, c⟩, r⟩ := x; exact ⟨mA, ⟨od, es, ep, k _ _ (.inl rfl) e, c⟩, r⟩
  | rng lo hi => obtain ⟨t, u, v, e⟩ := x; exact ⟨t, u, v, k _ _ (.inl rfl) e⟩
  | frz ob u ih => obtain ⟨e, q⟩ := x; exact ⟨k _ _ (.inl rfl) e, ih q⟩
  | tbl ps =>
    have e : h.get? a = some { cls := .none, data := .fields ps } := x
    show h'.get? a = some { cls := .none, data := .fields ps }
    exact k a _ (.inl rfl) e
  | met f y =>
    have e : h.get? a = some (PySem.W.methodObj (.ref f) (.ref y)) := x
    show h'.get? a = some (PySem.W.methodObj (.ref f) (.ref y))
    exact k a _ (.inl rfl) e
  | ext φ => obtain ⟨p, ⟨o, e⟩, st⟩ := x; exact ⟨st _ _ p fun o q => k _ _ (.inl rfl) q, ⟨o, k _ _ (.inl rfl) e⟩, st⟩
theorem HOk.lt (x : HOk P w H h) (e : H a = some o) : a < h.objs.size := (x a o e).lt
theorem HOk.fresh (x : HOk P w H h) (e : h.objs.size ≤ a) : H a = none := by
  cases q : H a with
  | none => rfl
  | some u => exact absurd (Nat.lt_of_lt_of_le (x.lt q) e) (Nat.lt_irrefl _)
/-- every object of the heap is kept -/
theorem HOk.kept (x : HOk P w H h) (k : ∀ b u, h.get? b = some u → h'.get? b = some u) : HOk P w H h' := fun a o e =>
  (x a o e).stay (fun b u _ q => k b u q) (fun _ q => q) fun _ _ q => q
/-- a new object is laid and tracked -/
theorem HOk.laid (x : HOk P w H h) (k : ∀ b u, h.get? b = some u → h'.get? b = some u) (hp : h.objs.size ≤ a) (new : ObjOk P w (upd H a o) h' a o) : HOk P w (upd H a o) h' := fun b u e => by
  have hn := x.fresh hp
  by_cases hb : b = a
  · subst hb; rw [upd_same] at e; cases e; exact new
  · rw [upd_ne hb] at e
    exact (x b u e).stay (fun c v _ q => k c v q) (fun c q => by rw [upd_ne (ne_of_none q hn)]; exact q) fun c xs q => by rw [upd_ne (ne_of_none q hn)]; exact q
end

/-- what may be read as u: it is u, or a known u -/
def Rd (H : Hp) (a : Addr) (u : HO) : Prop := H a = some u ∨ ∃ o, H a = some (.frz o u)
theorem Rd.ok {P : Program} {w : World} {H : Hp} {h : Heap} {a : Addr} {u : HO} (r : Rd H a u) (x : HOk P w H h) : ObjOk P w H h a u := by
  rcases r with r | ⟨o, r⟩
  · exact x a u r
  · obtain ⟨_, q⟩ := x a _ r
    exact q
/-- what may be written -/
def Mut : Option HO → Prop
  | some (.lst _) => True
  | some (.dK _) => True
  | some (.dT _) => True
  | some (.set _ _) => True
  | some (.ins _ _ _) => True
  | some (.ext _) => True
  | _ => False
section
variable {P : Program} {w : World} {H : Hp} {h h' : Heap} {x e : Addr} {o' : HO}
/-- the object at e is changed: x itself, or the dict of the instance x -/
theorem HOk.write (ok : HOk P w H h) (mu : Mut (H x)) (he : e = x ∨ H e = some (.own x)) (k : ∀ b u, b ≠ e → h.get? b = some u → h'.get? b = some u) (heo : ∃ u, h'.get? e = some u)
    (new : ObjOk P w (upd H x o') h' x o') : HOk P w (upd H x o') h' := fun b u q => by
  have nown : ∀ c y, H c = some (.own y) → c ≠ x := fun c y r z => by subst z; rw [r] at mu; exact mu
  have ntup : ∀ c xs, H c = some (.tup xs) → c ≠ x := fun c xs r z => by subst z; rw [r] at mu; exact mu
  by_cases hb : b = x
  · subst hb; rw [upd_same] at q; cases q; exact new
  · rw [upd_ne hb] at q
    by_cases hbe : b = e
    · have q' : H b = some (.own x) := by
        rcases he with z | z
        · exact absurd (hbe.trans z) hb
        · rw [hbe]; exact z
      rw [q] at q'; cases q'
      obtain ⟨v, hv⟩ := heo
      exact ⟨v, by rw [hbe]; exact hv⟩
    · refine (ok b u q).stay (fun c v hc r => k c v ?_ r) (fun c r => by rw [upd_ne (nown c b r)]; exact r) fun c xs r => by rw [upd_ne (ntup c xs r)]; exact r
      rcases hc with rfl | hc
      · exact hbe
      · rintro rfl
        rcases he with z | z
        · exact nown c b hc z
        · rw [hc] at z; cases z; exact hb rfl
end

structure Un (fs ex : List Addr) (H H' : Hp) (h h' : Heap) : Prop where
  keep : ∀ b o, h.get? b = some o → H b = none → b ∉ fs → b ∉ ex → h'.get? b = some o
  slot : ∀ b o, h.get? b = some o → H b = none → b ∈ fs → b ∉ ex → ∃ sl, h'.get? b = some { o with slots := sl }
  free : ∀ b o, h.get? b = some o → H b = none → b ∉ ex → H' b = none
  there : ∀ b o, h.get? b = some o → b ∉ ex → ∃ o', h'.get? b = some o'
  tups : ∀ b xs, H b = some (.tup xs) → H' b = some (.tup xs)
  frzs : ∀ b o u, H b = some (.frz o u) → H' b = some (.frz o u)
  tbls : ∀ b ps, H b = some (.tbl ps) → ∃ more, H' b = some (.tbl (ps ++ more))
section
variable {fs fs' ex ex' : List Addr} {H H1 H2 : Hp} {h h1 h2 h' : Heap} {a x e : Addr} {o : HO}
theorem Un.any (u : Un fs ex H H1 h h1) {b : Addr} {ob : Obj} (q : h.get? b = some ob) (n : H b = none) (hx : b ∉ ex) : ∃ sl, h1.get? b = some { ob with slots := sl } := by
  by_cases hb : b ∈ fs
  · exact u.slot b ob q n hb hx
  · exact ⟨ob.slots, u.keep b ob q n hb hx⟩
theorem Un.kept (k : ∀ b u, h.get? b = some u → h'.get? b = some u) : Un fs ex H H h h' :=
  ⟨fun b ob q _ _ _ => k b ob q, fun b ob q _ _ _ => ⟨ob.slots, k b ob q⟩, fun _ _ _ n _ => n, fun b ob q _ => ⟨ob, k b ob q⟩, fun _ _ q => q, fun _ _ _ q => q, fun _ ps q => ⟨#[], by rw [q]; simp⟩⟩
theorem Un.refl : Un fs ex H H h h := Un.kept fun _ _ q => q
theorem Un.laid (k : ∀ b u, h.get? b = some u → h'.get? b = some u) (hp : h.objs.size ≤ a) (hn : H a = none) : Un fs ex H (upd H a o) h h' where
  keep := fun b u q _ _ _ => k b u q
  slot := fun b u q _ _ _ => ⟨u.slots, k b u q⟩
  free := fun b u q n _ => by rw [upd_ne (Nat.ne_of_lt (Nat.lt_of_lt_of_le (Heap.lt_size q) hp))]; exact n
  there := fun b u q _ => ⟨u, k b u q⟩
  tups := fun b xs q => by rw [upd_ne (ne_of_none q hn)]; exact q
  frzs := fun b u xs q => by rw [upd_ne (ne_of_none q hn)]; exact q
  tbls := fun b ps q => ⟨#[], by rw [upd_ne (ne_of_none q hn), q]; simp⟩
theorem Un.write (mu : Mut (H x)) (he : e = x ∨ H e = some (.own x)) (k : ∀ b u, b ≠ e → h.get? b = some u → h'.get? b = some u) (heo : ∃ u, h'.get? e = some u) : Un fs ex H (upd H x o) h h' := by
  have hx : ∀ b, H b = none → b ≠ x := fun b n z => by subst z; rw [n] at mu; exact mu
  have hb : ∀ b, H b = none → b ≠ e := fun b n z => by
    subst z
    rcases he with r | r
    · exact hx b n r
    · rw [n] at r; cases r
  have hm : ∀ b u, H b = some u → ¬ Mut (some u) → b ≠ x := fun b u q nm z => by subst z; rw [q] at mu; exact nm mu
  refine ⟨fun b u q n _ _ => k b u (hb b n) q, fun b u q n _ _ => ⟨u.slots, k b u (hb b n) q⟩, fun b u q n _ => by rw [upd_ne (hx b n)]; exact n, fun b u q _ => ?_,
    fun b xs q => by rw [upd_ne (hm b _ q fun z => z)]; exact q, fun b u xs q => by rw [upd_ne (hm b _ q fun z => z)]; exact q, fun b ps q => ⟨#[], by rw [upd_ne (hm b _ q fun z => z), q]; simp⟩⟩
  by_cases hbe : b = e
  · subst hbe; exact heo
  · exact ⟨u, k b u hbe q⟩
end

def trk (h : Heap) (H : Hp) : List Addr := (List.range h.objs.size).filter fun a => (H a).isSome
def hidT (h : Heap) (H : Hp) : Heap := PySem.W.hideAll h (trk h H)
theorem hidT_size (h : Heap) (H : Hp) : (hidT h H).objs.size = h.objs.size := PySem.W.hideAll_size _ _
theorem hidT_get {h : Heap} {H : Hp} {b : Addr} {o : Obj} (e : h.get? b = some o) (n : H b = none) : (hidT h H).get? b = some o :=
  PySem.W.hideAll_get _ e fun hm => by
    have q : (H b).isSome = true := (List.mem_filter.mp hm).2
    rw [n] at q; simp at q
theorem of_hidT {h : Heap} {H : Hp} {b : Addr} {o : Obj} (e : (hidT h H).get? b = some o) : h.get? b = some o ∧ H b = none := by
  have e' : h.get? b = some o := PySem.W.of_hideAll (trk h H) e
  refine ⟨e', ?_⟩
  cases q : H b with
  | none => rfl
  | some x =>
    have hm : b ∈ trk h H := List.mem_filter.mpr ⟨List.mem_range.mpr (Heap.lt_size e'), by simp [q]⟩
    have z : (hidT h H).get? b = none := PySem.W.hideAll_none (trk h H) hm
    rw [z] at e; cases e

end L2

namespace L2
open PySem PySem.Spec PyProof.Rows

/-- the module's facts, over the base: the heap at the law's entry without what is tracked there -/
structure Mod (K : PySem.W.Frag) (mg : Str → Option Value) (base : Heap) : Prop where
  kin : K.In base
  glob : base.Ns mainGlobals mg
  blt : ∃ mb, base.Ns builtinsNs mb ∧ ∀ x : Str, x ≠ "__name__" → mb x = bootBuiltins x
  nolimit : base.NoLimit

/-- the context: a def's body (or a comprehension's block) running. base: fixed through the whole law; s₀, H₀: the entry; outer: the frames whose slots others may change (a def's callers); stack: all frames that run;
   ex: iterators that were made ahead of the entry and are walked here (a comprehension's); fn: the names whose cells were made at the entry (a def: all; a comprehension's block: its own); calm: not within an except suite; pn: pins that every state bears; xe: what is wanted of an exception that leaves the code -/
structure Cx where
  prog : Program
  w : World
  K : PySem.W.Frag
  mg : Str → Option Value
  base : Heap
  A : Around
  N : List Str
  s₀ : Shared
  H₀ : Hp
  env : Env
  outer : List Env
  stack : List Env
  ex : List Addr
  fn : Str → Bool
  calm : Bool
  pn : List (Addr × Obj)
  xe : Value → Shared → Prop
/-- the callers' frames -/
def frs (l : List Env) : List Addr := l.filterMap (·.frame)
abbrev Cx.fs (X : Cx) : List Addr := frs X.outer

def Vis (sc : Scope) (x : Str) : Prop := sc.names.lookup x = some .local ∨ sc.names.lookup x = some .cell ∨ sc.names.lookup x = some .free
def Loc (sc : Scope) (x : Str) : Prop := sc.names.lookup x = some .local ∨ sc.names.lookup x = some .cell
def Look (env : Env) (h : Heap) (m : Str → Option Value) (x : Str) (u : Value) : Prop :=
  (env.kindOf x = some .local ∧ m x = some u) ∨ ((env.kindOf x = some .cell ∨ env.kindOf x = some .free) ∧ ∃ c, env.cells.lookup x = some c ∧ h.IsCell c (some u))

structure Cx.Ok (X : Cx) : Prop where
  mod : Mod X.K X.mg X.base
  kind : X.env.scope.kind = .function
  glob : X.env.globals = mainGlobals
  blt : X.env.builtins = builtinsNs
  above : X.s₀.heap.objs.size ≤ X.env.locals
  inj : ∀ x y c, X.env.cells.lookup x = some c → X.env.cells.lookup y = some c → x = y
  has : ∀ x, (X.env.kindOf x = some .cell ∨ X.env.kindOf x = some .free) → ∃ c, X.env.cells.lookup x = some c
  cab : ∀ x c, X.fn x = true → X.env.cells.lookup x = some c → X.s₀.heap.objs.size ≤ c
  hd : X.calm = true → X.A.handled = none
  frames : X.A.frames = some X.stack
  stk : X.stack = X.outer ∨ (X.stack = X.env :: X.outer ∧ X.env.frame = some X.env.locals)
  exf : ∀ b ∈ X.ex, b ≠ X.env.locals ∧ ∀ x c, X.env.cells.lookup x = some c → c ≠ b
  bs : ∀ b o, X.base.get? b = some o → X.s₀.heap.get? b = some o ∧ X.H₀ b = none
  bsz : X.base.objs.size ≤ X.s₀.heap.objs.size
  noex : ∀ b o, X.base.get? b = some o → b ∉ X.ex
  exfs : ∀ b ∈ X.ex, b ∉ X.fs
  funs : X.s₀.heap.FunFrames X.base X.outer
  frf : ∀ b ∈ X.fs, X.H₀ b = none

structure Inv (X : Cx) (pins : List (Addr × Obj)) (σ : List (Option V)) (H : Hp) (s : Shared) : Prop where
  ok : X.Ok
  os : s.os = X.s₀.os
  bare : AllBare s.gens
  base : Un X.fs X.ex X.H₀ H X.s₀.heap s.heap
  loc : ∃ m, s.heap.Ns X.env.locals m ∧ ∀ (i : Nat) (x : Str) (v : V), X.N[i]? = some x → σ[i]? = some (some v) → Vis X.env.scope x → ∃ u, RelV v u ∧ Look X.env s.heap m x u
  cell : ∀ x c, X.env.cells.lookup x = some c → ∃ v, s.heap.IsCell c v
  free : H X.env.locals = none
  freeC : ∀ x c, X.env.cells.lookup x = some c → H c = none
  pin : ∀ p ∈ X.pn ++ pins, s.heap.get? p.1 = some p.2 ∧ H p.1 = none ∧ p.1 ≠ X.env.locals ∧ p.1 ∉ X.fs ∧ ∀ v, p.2.data ≠ .cell v
  hok : HOk X.prog X.w H s.heap
  len : σ.length = X.N.length

section
variable {X : Cx} {pins : List (Addr × Obj)} {σ : List (Option V)} {H H' : Hp} {s : Shared} {h' : Heap}

theorem Cx.Ok.nofr (ok : X.Ok) {b : Addr} {o : Obj} (e : X.base.get? b = some o) : b ∉ X.fs := fun hb => by
  have := (ok.funs.mem hb).1
  rw [e] at this; cases this
theorem Inv.bs (I : Inv X pins σ H s) : ∀ b o, X.base.get? b = some o → s.heap.get? b = some o ∧ H b = none := fun b o e =>
  ⟨I.base.keep b o (I.ok.bs b o e).1 (I.ok.bs b o e).2 (I.ok.nofr e) (I.ok.noex b o e), I.base.free b o (I.ok.bs b o e).1 (I.ok.bs b o e).2 (I.ok.noex b o e)⟩
theorem Inv.bk (I : Inv X pins σ H s) : ∀ b o, X.base.get? b = some o → s.heap.get? b = some o := fun b o e => (I.bs b o e).1
theorem Inv.mod (I : Inv X pins σ H s) : Mod X.K X.mg X.base := I.ok.mod
theorem Inv.kIn (I : Inv X pins σ H s) : X.K.In s.heap := I.ok.mod.kin.keeps I.bk
/-- the frame over the base: for OpenK's rules (K.In X.base is I.mod.kin) -/
theorem Inv.fr (I : Inv X pins σ H s) : ∃ m, Fr X.base X.env.locals s.heap m :=
  let ⟨m, hn, _⟩ := I.loc
  ⟨m, hn, I.bk, Nat.le_trans I.ok.bsz I.ok.above⟩
theorem Inv.lt (I : Inv X pins σ H s) : X.env.locals < s.heap.objs.size := let ⟨_, hn, _⟩ := I.loc; hn.lt
theorem Inv.sz (I : Inv X pins σ H s) : X.s₀.heap.objs.size ≤ s.heap.objs.size := Nat.le_trans I.ok.above (Nat.le_of_lt I.lt)
theorem Inv.nofs (I : Inv X pins σ H s) {a : Addr} (h : s.heap.objs.size ≤ a) : a ∉ X.fs := fun hb => by
  obtain ⟨_, o, ho, _⟩ := I.ok.funs.mem hb
  exact absurd (Nat.lt_of_lt_of_le (Heap.lt_size ho) (Nat.le_trans I.sz h)) (Nat.lt_irrefl _)
theorem Inv.cne (I : Inv X pins σ H s) : ∀ x c, X.env.cells.lookup x = some c → c ≠ X.env.locals := fun x c e z => by
  obtain ⟨v, o, ho, hd⟩ := I.cell x c e
  obtain ⟨m, ⟨o', es, ep, ho', hd', _⟩, _⟩ := I.loc
  rw [z, ho'] at ho; cases ho; rw [hd'] at hd; cases hd
theorem Inv.funs (I : Inv X pins σ H s) : s.heap.FunFrames X.base X.outer := by
  have all : ∀ (l : List Env), (∀ b ∈ frs l, b ∈ X.fs) → X.s₀.heap.FunFrames X.base l → s.heap.FunFrames X.base l := by
    intro l
    induction l with
    | nil => intro _ _; trivial
    | cons env r ih =>
      intro hs hl
      obtain ⟨hk, ⟨L, o, hf, hn, ho, hd⟩, hr⟩ := hl
      have hL : L ∈ X.fs := hs L (by unfold frs; rw [List.filterMap_cons, hf]; exact List.mem_cons_self)
      obtain ⟨sl, e⟩ := I.base.slot L o ho (I.ok.frf L hL) hL fun z => I.ok.exfs L z hL
      exact ⟨hk, ⟨L, _, hf, hn, e, hd⟩, ih (fun b hb => hs b (by unfold frs; rw [List.filterMap_cons, hf]; exact List.mem_cons_of_mem _ hb)) hr⟩
  exact all X.outer (fun _ hb => hb) I.ok.funs

/-- the frames that run, for a call -/
theorem Inv.stack (I : Inv X pins σ H s) : s.heap.FunFrames X.base X.stack := by
  rcases I.ok.stk with e | ⟨e, hf⟩
  · rw [e]; exact I.funs
  · rw [e]
    obtain ⟨m, hn, _⟩ := I.loc
    refine .cons (by rw [I.ok.kind]; decide) hf hn ?_ I.funs
    exact Heap.get?_none_of_le (Nat.le_trans I.ok.bsz I.ok.above)
theorem Inv.stkSub (I : Inv X pins σ H s) : ∀ b ∈ frs X.stack, b ∈ X.env.locals :: X.fs := fun b hb => by
  rcases I.ok.stk with e | ⟨e, hf⟩
  · rw [e] at hb; exact List.mem_cons_of_mem _ hb
  · rw [e] at hb
    unfold frs at hb
    rw [List.filterMap_cons, hf] at hb
    exact hb
theorem Inv.stkFree (I : Inv X pins σ H s) : ∀ b ∈ frs X.stack, H b = none := fun b hb => by
  rcases List.mem_cons.mp (I.stkSub b hb) with e | hb
  · rw [e]; exact I.free
  · obtain ⟨_, o, ho, _⟩ := I.ok.funs.mem hb
    exact I.base.free b o ho (I.ok.frf b hb) fun z => I.ok.exfs b z hb

/-- THE STEP: the untracked objects but the frame and the records at ch are kept (the callers' frames up to slots), the frame's map is kept, the new abstract heap is held -/
theorem Inv.step {g' : Array GenState} {t' : Nat} {d' : Drawn} {ch : List Addr} (I : Inv X pins σ H s)
    (hch : ∀ b ∈ ch, (b ∈ X.ex ∨ X.s₀.heap.objs.size ≤ b) ∧ b ≠ X.env.locals ∧ (∀ x c, X.env.cells.lookup x = some c → c ≠ b) ∧ ∀ p ∈ X.pn ++ pins, p.1 ≠ b)
    (keep : ∀ b o, b ≠ X.env.locals → b ∉ X.fs → b ∉ ch → s.heap.get? b = some o → H b = none → h'.get? b = some o)
    (slot : ∀ b o, b ≠ X.env.locals → b ∈ X.fs → b ∉ ch → s.heap.get? b = some o → H b = none → ∃ sl, h'.get? b = some { o with slots := sl }) (free : ∀ b o, b ∉ ch → s.heap.get? b = some o → H b = none → H' b = none)
    (there : ∀ b o, b ∉ ch → s.heap.get? b = some o → ∃ o', h'.get? b = some o')
    (tups : ∀ b xs, H b = some (.tup xs) → H' b = some (.tup xs)) (frzs : ∀ b o u, H b = some (.frz o u) → H' b = some (.frz o u)) (tbls : ∀ b ps, H b = some (.tbl ps) → ∃ more, H' b = some (.tbl (ps ++ more)))
    (ns : ∀ m, s.heap.Ns X.env.locals m → h'.Ns X.env.locals m) (hok : HOk X.prog X.w H' h') (hg : AllBare g') :
    Inv X pins σ H' { s with heap := h', gens := g', drawn := d', toks := t' } := by
  have neL : ∀ b o, X.s₀.heap.get? b = some o → b ≠ X.env.locals := fun b o e => Nat.ne_of_lt (Nat.lt_of_lt_of_le (Heap.lt_size e) I.ok.above)
  have neC : ∀ b o, X.s₀.heap.get? b = some o → b ∉ X.ex → b ∉ ch := fun b o e hx hb => by
    rcases (hch b hb).1 with z | z
    · exact hx z
    · exact absurd (Nat.lt_of_lt_of_le (Heap.lt_size e) z) (Nat.lt_irrefl _)
  have cellK : ∀ x c, X.env.cells.lookup x = some c → ∀ v, s.heap.IsCell c v → h'.IsCell c v := fun x c e v ⟨o, ho, hd⟩ => by
    have nch : c ∉ ch := fun z => (hch c z).2.2.1 x c e rfl
    by_cases hc : c ∈ X.fs
    · obtain ⟨sl, q⟩ := slot c o (I.cne x c e) hc nch ho (I.freeC x c e)
      exact ⟨_, q, hd⟩
    · exact ⟨o, keep c o (I.cne x c e) hc nch ho (I.freeC x c e), hd⟩
  refine ⟨I.ok, I.os, hg, ⟨fun b o e n hb hx => ?_, fun b o e n hb hx => ?_, fun b o e n hx => ?_, fun b o e hx => ?_, fun b xs e => tups b xs (I.base.tups b xs e), fun b o xs e => frzs b o xs (I.base.frzs b o xs e), fun b ps e => ?_⟩, ?_, fun x c e => ?_, ?_, fun x c e => ?_, fun p hp => ?_, hok, I.len⟩
  · exact keep b o (neL b o e) hb (neC b o e hx) (I.base.keep b o e n hb hx) (I.base.free b o e n hx)
  · obtain ⟨sl, e1⟩ := I.base.slot b o e n hb hx
    obtain ⟨sl', e2⟩ := slot b _ (neL b o e) hb (neC b o e hx) e1 (I.base.free b o e n hx)
    exact ⟨sl', e2⟩
  · obtain ⟨o', e1⟩ := I.base.there b o e hx
    exact free b o' (neC b o e hx) e1 (I.base.free b o e n hx)
  · obtain ⟨o', e1⟩ := I.base.there b o e hx
    exact there b o' (neC b o e hx) e1
  · obtain ⟨m1, e1⟩ := I.base.tbls b ps e
    obtain ⟨m2, e2⟩ := tbls b _ e1
    exact ⟨m1 ++ m2, by rw [e2, Array.append_assoc]⟩
  · obtain ⟨m, hn, hl⟩ := I.loc
    refine ⟨m, ns m hn, fun i x v e1 e2 e3 => ?_⟩
    obtain ⟨u, r, l⟩ := hl i x v e1 e2 e3
    refine ⟨u, r, ?_⟩
    rcases l with l | ⟨k, c, e, z⟩
    · exact .inl l
    · exact .inr ⟨k, c, e, cellK x c e _ z⟩
  · obtain ⟨v, z⟩ := I.cell x c e
    exact ⟨v, cellK x c e v z⟩
  · obtain ⟨m, ⟨o, _, _, ho, _⟩, _⟩ := I.loc
    exact free _ o (fun z => (hch _ z).2.1 rfl) ho I.free
  · obtain ⟨v, o, ho, hd⟩ := I.cell x c e
    exact free c o (fun z => (hch c z).2.2.1 x c e rfl) ho (I.freeC x c e)
  · obtain ⟨e, n, ne, nf, d⟩ := I.pin p hp
    have nch : p.1 ∉ ch := fun z => (hch p.1 z).2.2.2 p hp rfl
    exact ⟨keep p.1 p.2 ne nf nch e n, free p.1 p.2 nch e n, ne, nf, d⟩
/-- .. where the frame's own object is kept too -/
theorem Inv.un {t' : Nat} (I : Inv X pins σ H s) (u : Un X.fs [] H H' s.heap h') (hok : HOk X.prog X.w H' h') : Inv X pins σ H' { s with heap := h', toks := t' } := by
  obtain ⟨m, ⟨o, es, ep, ho, r⟩, _⟩ := id I.loc
  obtain ⟨sl, hL⟩ := u.any ho I.free (by simp)
  exact I.step (g' := s.gens) (d' := s.drawn) (ch := []) (fun _ z => nomatch z) (fun b o _ hb _ e n => u.keep b o e n hb (by simp)) (fun b o _ hb _ e n => u.slot b o e n hb (by simp)) (fun b o _ e n => u.free b o e n (by simp)) (fun b o _ e => u.there b o e (by simp)) u.tups u.frzs u.tbls (fun m' hm => by
    obtain ⟨o', es', ep', ho', r'⟩ := hm
    rw [ho] at ho'; cases ho'
    exact ⟨_, es', ep', hL, r'⟩) hok I.bare
/-- behind a call (or a comprehension's block): the slots of this frame may have changed too, the records at ch may have turned -/
theorem Inv.call {g' : Array GenState} {t' : Nat} {d' : Drawn} {ch : List Addr} (I : Inv X pins σ H s) (u : Un (frs X.stack) ch H H' s.heap h') (hok : HOk X.prog X.w H' h') (hg : AllBare g')
    (hch : ∀ b ∈ ch, (b ∈ X.ex ∨ X.s₀.heap.objs.size ≤ b) ∧ b ≠ X.env.locals ∧ (∀ x c, X.env.cells.lookup x = some c → c ≠ b) ∧ ∀ p ∈ X.pn ++ pins, p.1 ≠ b) :
    Inv X pins σ H' { s with heap := h', gens := g', drawn := d', toks := t' } := by
  obtain ⟨m, ⟨o, es, ep, ho, r⟩, _⟩ := id I.loc
  obtain ⟨sl, hL⟩ := u.any ho I.free fun z => (hch _ z).2.1 rfl
  exact I.step (ch := ch) hch (fun b o hL hb hc e n => u.keep b o e n (fun z => (List.mem_cons.mp (I.stkSub b z)).elim hL hb) hc) (fun b o _ _ hc e n => u.any e n hc) (fun b o hc e n => u.free b o e n hc) (fun b o hc e => u.there b o e hc) u.tups u.frzs u.tbls (fun m' hm => by
    obtain ⟨o', es', ep', ho', r'⟩ := hm
    rw [ho] at ho'; cases ho'
    exact ⟨_, es', ep', hL, r'⟩) hok hg
/-- an untracked record of ours (an iterator) has turned -/
theorem Inv.turned {t' : Nat} {it : Addr} (I : Inv X pins σ H s) (k : ∀ b o, b ≠ it → s.heap.get? b = some o → h'.get? b = some o) (hn : H it = none) (hL : it ≠ X.env.locals)
    (h1 : it ∈ X.ex ∨ X.s₀.heap.objs.size ≤ it) (h2 : ∀ x c, X.env.cells.lookup x = some c → c ≠ it) (h3 : ∀ p ∈ X.pn ++ pins, p.1 ≠ it) : Inv X pins σ H { s with heap := h', toks := t' } := by
  have nit : ∀ b u, H b = some u → b ≠ it := fun b u e z => by rw [z, hn] at e; cases e
  refine I.step (g' := s.gens) (d' := s.drawn) (ch := [it]) (fun b hb => ?_) (fun b o _ _ hc e _ => k b o (fun z => hc (by simp [z])) e) (fun b o _ _ hc e _ => ⟨o.slots, k b o (fun z => hc (by simp [z])) e⟩) (fun _ _ _ _ n => n)
    (fun b o hc e => ⟨o, k b o (fun z => hc (by simp [z])) e⟩) (fun _ _ e => e) (fun _ _ _ e => e) (fun b ps e => ⟨#[], by rw [e]; simp⟩) (fun m hm => ?_) (fun b u e => ?_) I.bare
  · have e : b = it := by simpa using hb
    subst e
    exact ⟨h1, hL, h2, h3⟩
  · obtain ⟨o, es, ep, ho, r⟩ := hm
    exact ⟨o, es, ep, k _ o (Ne.symm hL) ho, r⟩
  · refine (I.hok b u e).stay (fun c v hc q => k c v ?_ q) (fun _ q => q) fun _ _ q => q
    rcases hc with z | z
    · rw [z]; exact nit b u e
    · exact nit c _ z
theorem Inv.tok (I : Inv X pins σ H s) (t : Nat) : Inv X pins σ H { s with toks := t } := I.un (h' := s.heap) (t' := t) Un.refl I.hok
/-- all objects kept -/
theorem Inv.kept {t' : Nat} (I : Inv X pins σ H s) (k : ∀ b u, s.heap.get? b = some u → h'.get? b = some u) : Inv X pins σ H { s with heap := h', toks := t' } := I.un (Un.kept k) (I.hok.kept k)
/-- a new object laid and tracked -/
theorem Inv.laid {a : Addr} {o : HO} {t' : Nat} (I : Inv X pins σ H s) (k : ∀ b u, s.heap.get? b = some u → h'.get? b = some u) (hp : s.heap.objs.size ≤ a) (new : ObjOk X.prog X.w (upd H a o) h' a o) :
    Inv X pins σ (upd H a o) { s with heap := h', toks := t' } := I.un (Un.laid k hp (I.hok.fresh hp)) (I.hok.laid k hp new)
/-- an object written -/
theorem Inv.write {x e : Addr} {o : HO} {t' : Nat} (I : Inv X pins σ H s) (mu : Mut (H x)) (he : e = x ∨ H e = some (.own x)) (k : ∀ b u, b ≠ e → s.heap.get? b = some u → h'.get? b = some u) (heo : ∃ u, h'.get? e = some u)
    (new : ObjOk X.prog X.w (upd H x o) h' x o) : Inv X pins σ (upd H x o) { s with heap := h', toks := t' } := I.un (Un.write mu he k heo) (I.hok.write mu he k heo new)
/-- forgetting slots, pins -/
theorem Inv.weak {σ' : List (Option V)} (I : Inv X pins σ H s) (hl : σ'.length = σ.length) (w : ∀ (i : Nat) v, σ'[i]? = some (some v) → σ[i]? = some (some v)) : Inv X pins σ' H s :=
  ⟨I.ok, I.os, I.bare, I.base, let ⟨m, hn, hl'⟩ := I.loc; ⟨m, hn, fun i x v e1 e2 e3 => hl' i x v e1 (w i v e2) e3⟩, I.cell, I.free, I.freeC, I.pin, I.hok, hl.trans I.len⟩
theorem Inv.pins_of {pins' : List (Addr × Obj)} (I : Inv X pins σ H s) (h : ∀ p ∈ pins', s.heap.get? p.1 = some p.2 ∧ H p.1 = none ∧ p.1 ≠ X.env.locals ∧ p.1 ∉ X.fs ∧ ∀ v, p.2.data ≠ .cell v) : Inv X pins' σ H s :=
  ⟨I.ok, I.os, I.bare, I.base, I.loc, I.cell, I.free, I.freeC, fun p hp => (List.mem_append.mp hp).elim (fun z => I.pin p (List.mem_append_left _ z)) (h p), I.hok, I.len⟩

theorem nodup_ix {N : List Str} (hN : N.Nodup) {i j : Nat} {x : Str} (a : N[i]? = some x) (b : N[j]? = some x) : i = j := by
  obtain ⟨h1, e1⟩ := List.getElem?_eq_some_iff.mp a
  obtain ⟨h2, e2⟩ := List.getElem?_eq_some_iff.mp b
  exact (List.getElem_inj hN).mp (e1.trans e2.symm)

/-- a name is stored; what changed -/
theorem store_ok2 {M : Model} {A : Around} {E : Value → Shared → Prop} {i : Nat} {x : Str} {v : V} {u : Value} {Q : Unit → Shared → Prop} (I : Inv X pins σ H s) (hN : X.N.Nodup) (hi : X.N[i]? = some x) (hx : Loc X.env.scope x) (r : RelV v u)
    (h : ∀ s', Inv X pins (σ.set i (some v)) H s' → (∃ a, Heap.SameBut a s.heap s'.heap ∧ (a = X.env.locals ∨ X.env.cells.lookup x = some a)) → Q () s') (hf : X.fn x = true ∨ X.env.scope.names.lookup x = some .local := by first | exact .inl rfl | exact .inr rfl | assumption) : wpAny M A (storeName X.env x u) Q E s := by
  obtain ⟨m, hn, hl⟩ := id I.loc
  have hcls : (X.env.scope.kind == .class || (X.env.scope.kind == .module && X.env.locals != X.env.globals)) = false := by rw [I.ok.kind]; rfl
  have hiσ : i < σ.length := by rw [I.len]; exact (List.getElem?_eq_some_iff.mp hi).1
  have cne := I.cne
  have tracked : ∀ {a : Addr} {h' : Heap}, (∃ o, s.heap.get? a = some o ∧ H a = none) → Heap.SameBut a s.heap h' → HOk X.prog X.w H h' := fun {a h'} ha hs b ob e => by
    obtain ⟨_, _, hfree⟩ := ha
    refine (I.hok b ob e).stay (fun c w' hc q => (hs.2 c ?_).trans q) (fun _ q => q) fun _ _ q => q
    rintro rfl
    rcases hc with rfl | hc
    · rw [hfree] at e; cases e
    · rw [hfree] at hc; cases hc
  rcases hx with hk | hk
  · refine wpAny_storeName_local hk hn (fun h' hn' hs => ?_) hcls
    obtain ⟨oL, _, _, hoL, _⟩ := id hn
    refine h _ ⟨I.ok, I.os, I.bare, ⟨fun b o e n hb hx => ?_, fun b o e n hb hx => ?_, I.base.free, fun b o e hx => ?_, I.base.tups, I.base.frzs, I.base.tbls⟩, ⟨_, hn', fun j y v' e1 e2 e3 => ?_⟩, fun y c e => ?_, I.free, I.freeC, fun p hp => ?_, tracked ⟨oL, hoL, I.free⟩ hs, by simpa using I.len⟩ ⟨_, hs, .inl rfl⟩
    · exact (hs.2 b (Nat.ne_of_lt (Nat.lt_of_lt_of_le (Heap.lt_size e) I.ok.above))).trans (I.base.keep b o e n hb hx)
    · obtain ⟨sl, e1⟩ := I.base.slot b o e n hb hx
      exact ⟨sl, (hs.2 b (Nat.ne_of_lt (Nat.lt_of_lt_of_le (Heap.lt_size e) I.ok.above))).trans e1⟩
    · obtain ⟨o', e1⟩ := I.base.there b o e hx
      exact ⟨o', (hs.2 b (Nat.ne_of_lt (Nat.lt_of_lt_of_le (Heap.lt_size e) I.ok.above))).trans e1⟩
    · by_cases hj : j = i
      · subst hj
        rw [hi] at e1; cases e1
        rw [List.getElem?_set_self hiσ] at e2
        cases e2
        exact ⟨u, r, .inl ⟨hk, by simp⟩⟩
      · rw [List.getElem?_set_ne (Ne.symm hj)] at e2
        obtain ⟨u', r', q⟩ := hl j y v' e1 e2 e3
        refine ⟨u', r', ?_⟩
        rcases q with ⟨k, e⟩ | ⟨k, c, e, z⟩
        · refine .inl ⟨k, ?_⟩
          have : y ≠ x := fun e => hj (nodup_ix hN e1 (e ▸ hi))
          simp [this, e]
        · exact .inr ⟨k, c, e, z.sameBut hs (cne y c e)⟩
    · obtain ⟨w', z⟩ := I.cell y c e
      exact ⟨w', z.sameBut hs (cne y c e)⟩
    · obtain ⟨e, n, ne, nf, d⟩ := I.pin p hp
      exact ⟨(hs.2 p.1 ne).trans e, n, ne, nf, d⟩
  · have hfn : X.fn x = true := by
      rcases hf with z | z
      · exact z
      · rw [z] at hk; cases hk
    obtain ⟨c, hc⟩ := I.ok.has x (.inl hk)
    obtain ⟨w', z⟩ := I.cell x c hc
    refine wpAny_storeName_cell I.ok.kind hk hc z (fun h' hc' hs => ?_)
    obtain ⟨oc, hoc, hocd⟩ := id z
    refine h { s with heap := h' } ⟨I.ok, I.os, I.bare, ⟨fun b o e n hb hx => ?_, fun b o e n hb hx => ?_, I.base.free, fun b o e hx => ?_, I.base.tups, I.base.frzs, I.base.tbls⟩, ⟨m, hn.sameBut hs (Ne.symm (cne x c hc)), fun j y v' e1 e2 e3 => ?_⟩, fun y c' e => ?_, I.free, I.freeC, fun p hp => ?_, tracked ⟨oc, hoc, I.freeC x c hc⟩ hs, by simpa using I.len⟩ ⟨c, hs, .inr hc⟩
    · exact (hs.2 b (Nat.ne_of_lt (Nat.lt_of_lt_of_le (Heap.lt_size e) (I.ok.cab x c hfn hc)))).trans (I.base.keep b o e n hb hx)
    · obtain ⟨sl, e1⟩ := I.base.slot b o e n hb hx
      exact ⟨sl, (hs.2 b (Nat.ne_of_lt (Nat.lt_of_lt_of_le (Heap.lt_size e) (I.ok.cab x c hfn hc)))).trans e1⟩
    · obtain ⟨o', e1⟩ := I.base.there b o e hx
      exact ⟨o', (hs.2 b (Nat.ne_of_lt (Nat.lt_of_lt_of_le (Heap.lt_size e) (I.ok.cab x c hfn hc)))).trans e1⟩
    · by_cases hj : j = i
      · subst hj
        rw [hi] at e1; cases e1
        rw [List.getElem?_set_self hiσ] at e2
        cases e2
        exact ⟨u, r, .inr ⟨.inl hk, c, hc, hc'⟩⟩
      · rw [List.getElem?_set_ne (Ne.symm hj)] at e2
        obtain ⟨u', r', q⟩ := hl j y v' e1 e2 e3
        refine ⟨u', r', ?_⟩
        rcases q with q | ⟨k, c', e, z'⟩
        · exact .inl q
        · refine .inr ⟨k, c', e, z'.sameBut hs ?_⟩
          rintro rfl
          exact hj (nodup_ix hN e1 (I.ok.inj _ _ _ e hc ▸ hi))
    · by_cases hcc : c' = c
      · subst hcc; exact ⟨_, hc'⟩
      · obtain ⟨w2, z2⟩ := I.cell y c' e
        exact ⟨w2, z2.sameBut hs hcc⟩
    · obtain ⟨e, n, ne, nf, d⟩ := I.pin p hp
      refine ⟨(hs.2 p.1 ?_).trans e, n, ne, nf, d⟩
      intro q
      rw [q, hoc] at e
      have q' : oc = p.2 := Option.some.inj e
      exact d w' (by rw [← q']; exact hocd)
theorem store_ok {M : Model} {A : Around} {E : Value → Shared → Prop} {i : Nat} {x : Str} {v : V} {u : Value} {Q : Unit → Shared → Prop} (I : Inv X pins σ H s) (hN : X.N.Nodup) (hi : X.N[i]? = some x) (hx : Loc X.env.scope x) (r : RelV v u)
    (h : ∀ s', Inv X pins (σ.set i (some v)) H s' → Q () s') (hf : X.fn x = true ∨ X.env.scope.names.lookup x = some .local := by first | exact .inl rfl | exact .inr rfl | assumption) : wpAny M A (storeName X.env x u) Q E s :=
  store_ok2 I hN hi hx r (fun s' I' _ => h s' I') hf
/-- behind a call or a block, the state as it is -/
theorem Inv.call' {s' : Shared} {ch : List Addr} (I : Inv X pins σ H s) (ho : s'.os = s.os) (u : Un (frs X.stack) ch H H' s.heap s'.heap) (hok : HOk X.prog X.w H' s'.heap) (hg : AllBare s'.gens)
    (hch : ∀ b ∈ ch, (b ∈ X.ex ∨ X.s₀.heap.objs.size ≤ b) ∧ b ≠ X.env.locals ∧ (∀ x c, X.env.cells.lookup x = some c → c ≠ b) ∧ ∀ p ∈ X.pn ++ pins, p.1 ≠ b) : Inv X pins σ H' s' := by
  obtain ⟨h', g', d', t', o'⟩ := s'
  have e : o' = s.os := ho
  subst e
  exact I.call (g' := g') (t' := t') (d' := d') u hok hg hch
end

/-- an exception: its class, its own dict's address (where it has one), the abstract heap behind it -/
abbrev XK := Value → Option Addr → Hp → Prop
abbrev St := List (Option V)
abbrev VK := V → Hp → Prop
/-- an expression's reading; a test's; an argument list's -/
abbrev TE := St → Hp → VK → Prop
abbrev TT := St → Hp → (Bool → Hp → Prop) → Prop
abbrev TA := St → Hp → (List V → Hp → Prop) → Prop
/-- what is wanted behind a statement -/
structure Ends where
  nx : St → Hp → Prop
  rt : VK
  bk : St → Hp → Prop := fun _ _ => False
  ct : St → Hp → Prop := fun _ _ => False
abbrev TS := Ends → St → Hp → Prop

def EP (X : Cx) (pins : List (Addr × Obj)) (σ : St) (Q : VK) (u : Value) (s' : Shared) : Prop := ∃ v H', Inv X pins σ H' s' ∧ RelV v u ∧ Q v H'
def TP (X : Cx) (pins : List (Addr × Obj)) (σ : St) (Q : Bool → Hp → Prop) (b : Bool) (s' : Shared) : Prop := ∃ H', Inv X pins σ H' s' ∧ Q b H'
def AP (X : Cx) (pins : List (Addr × Obj)) (σ : St) (Q : List V → Hp → Prop) (us : List Value) (s' : Shared) : Prop := ∃ vs H', Inv X pins σ H' s' ∧ Vals vs us ∧ Q vs H'
def SP (X : Cx) (pins : List (Addr × Obj)) (D : Ends) (f : Flow) (s' : Shared) : Prop :=
  match f with
  | .next => ∃ σ' H', Inv X pins σ' H' s' ∧ D.nx σ' H'
  | .brk => ∃ σ' H', Inv X pins σ' H' s' ∧ D.bk σ' H'
  | .cont => ∃ σ' H', Inv X pins σ' H' s' ∧ D.ct σ' H'
  | .ret u => ∃ v σ' H', Inv X pins σ' H' s' ∧ RelV v u ∧ D.rt v H'

def PE (X : Cx) (e : Expr) (t : TE) : Prop :=
  ∀ (pins : List (Addr × Obj)) (s : Shared) (σ : St) (H : Hp) (Q : VK), Inv X pins σ H s → t σ H Q → wpAny (model X.prog X.w) X.A (eval e X.env) (EP X pins σ Q) X.xe s
def PT (X : Cx) (e : Expr) (t : TT) : Prop :=
  ∀ (pins : List (Addr × Obj)) (s : Shared) (σ : St) (H : Hp) (Q : Bool → Hp → Prop), Inv X pins σ H s → t σ H Q → wpAny (model X.prog X.w) X.A (isTrue e X.env (eval e X.env)) (TP X pins σ Q) X.xe s
/-- a test whatever its 'whole' is (and, or) -/
def PW (X : Cx) (e : Expr) (t : TT) : Prop :=
  ∀ (whole : Sem Value) (pins : List (Addr × Obj)) (s : Shared) (σ : St) (H : Hp) (Q : Bool → Hp → Prop), Inv X pins σ H s → t σ H Q → wpAny (model X.prog X.w) X.A (isTrue e X.env whole) (TP X pins σ Q) X.xe s
theorem PW.pt {X : Cx} {e : Expr} {t : TT} (h : PW X e t) : PT X e t := h _
/-- an argument list (no star), from the left -/
def PA (X : Cx) (es : List Expr) (t : TA) : Prop :=
  ∀ (pos : Pos) (pins : List (Addr × Obj)) (s : Shared) (σ : St) (H : Hp) (Q : List V → Hp → Prop), Inv X pins σ H s → t σ H Q → wpAny (model X.prog X.w) X.A (spliced (backTo pos (starEach es X.env))) (AP X pins σ Q) X.xe s
def PS (X : Cx) (st : Stmt) (t : TS) : Prop :=
  ∀ (pins : List (Addr × Obj)) (s : Shared) (σ : St) (H : Hp) (D : Ends), Inv X pins σ H s → t D σ H → wpAny (model X.prog X.w) X.A (exec st X.env) (SP X pins D) X.xe s
def PSs (X : Cx) (st : List Stmt) (t : TS) : Prop :=
  ∀ (pins : List (Addr × Obj)) (s : Shared) (σ : St) (H : Hp) (D : Ends), Inv X pins σ H s → t D σ H → wpAny (model X.prog X.w) X.A (execs st X.env) (SP X pins D) X.xe s
/-- weaken the end -/
theorem thn {α : Type} {t : Sem α} {Q Q' : α → Shared → Prop} {M : Model} {A : Around} {E : Value → Shared → Prop} {s : Shared} (h : wpAny M A t Q E s) (hQ : ∀ a s, Q a s → Q' a s) : wpAny M A t Q' E s := wpAny_mono h hQ fun _ _ x => x
end L2

namespace L2
open PySem PySem.Spec PyProof.Rows
section
variable {X : Cx}

/-- two expressions in a row -/
theorem bin {a b : Expr} {ta tb : TE} (ha : PE X a ta) (hb : PE X b tb) {pins : List (Addr × Obj)} {s : Shared} {σ : St} {H : Hp} {R : V → V → Hp → Prop} (I : Inv X pins σ H s) (h : ta σ H fun x H1 => tb σ H1 fun y H2 => R x y H2)
    {α : Type} {Q : α → Shared → Prop} {f : Value → Value → Sem α}
    (hf : ∀ v u s2 x y H2, Inv X pins σ H2 s2 → RelV x v → RelV y u → R x y H2 → wpAny (model X.prog X.w) X.A (f v u) Q X.xe s2) :
    wpAny (model X.prog X.w) X.A (eval a X.env) (fun v s₁ => wpAny (model X.prog X.w) X.A (eval b X.env) (fun u s₂ => wpAny (model X.prog X.w) X.A (f v u) Q X.xe s₂) X.xe s₁) X.xe s := by
  refine thn (ha pins s σ H _ I h) fun v s1 ⟨x, H1, I1, r1, q1⟩ => ?_
  refine thn (hb pins s1 σ H1 _ I1 q1) fun u s2 ⟨y, H2, I2, r2, q2⟩ => ?_
  exact hf v u s2 x y H2 I2 r1 r2 q2

def tVar (i : Nat) : TE := fun σ H Q => ∃ v, σ[i]? = some (some v) ∧ Q v H
def tC (v : V) : TE := fun _ H Q => Q v H
theorem pe_var {i : Nat} {x : Str} {pos : Pos} (hN : X.N[i]? = some x) (hv : Vis X.env.scope x) (hd : (x == ("__debug__" : Str)) = false := by decide) (hcd : (x == ("__classdict__" : Str)) = false := by decide) : PE X (.Name x pos) (tVar i) := by
  intro pins s σ H Q I h
  obtain ⟨v, e, h⟩ := h
  obtain ⟨m, hn, hl⟩ := I.loc
  obtain ⟨u, r, l⟩ := hl i x v hN e hv
  have fin : EP X pins σ Q u s := ⟨v, H, I, r, h⟩
  rcases l with ⟨hk, hm⟩ | ⟨hk, c, hc, hcell⟩
  · exact wpAny_Name (wpAny_loadName_local I.ok.kind hk hn hm fin) hd
  · rcases hk with hk | hk
    · exact wpAny_Name (wpAny_loadName_cell I.ok.kind hk hc hcell fin) hd
    · exact wpAny_Name (wpAny_loadName_free I.ok.kind hk hc hcell fin hcd) hd
theorem pe_int {i j pos} : PE X (.Constant (.int i) j pos) (tC (.int i)) := fun _ _ _ H _ I h => wpAny_Constant_int ⟨.int i, H, I.tok _, ⟨_, rfl⟩, h⟩
theorem pe_bl {b j pos} : PE X (.Constant (.bool b) j pos) (tC (.bl b)) := fun _ _ _ H _ I h => Constant_bool ⟨.bl b, H, I, rfl, h⟩
theorem pe_non {j pos} : PE X (.Constant .none j pos) (tC .non) := fun _ _ _ H _ I h => Constant_none ⟨.non, H, I, rfl, h⟩
theorem pe_str {x j pos} : PE X (.Constant (.str x) j pos) (tC (.str x)) := fun _ _ _ H _ I h => Calls.Constant_str ⟨.str x, H, I.tok _, ⟨_, rfl⟩, h⟩

/-- a global name of the def -/
def Gl (X : Cx) (x : Str) : Prop := X.env.kindOf x = some .globalImplicit
theorem ld_glob {E : Value → Shared → Prop} {pins : List (Addr × Obj)} {s : Shared} {σ : St} {H : Hp} {x : Str} {u : Value} {pos : Pos} {Q : Value → Shared → Prop} (I : Inv X pins σ H s) (hg : Gl X x) (hm : X.mg x = some u) (h : Q u s)
    (hd : (x == ("__debug__" : Str)) = false := by decide) : wpAny (model X.prog X.w) X.A (eval (.Name x pos) X.env) Q E s :=
  Calls.Name_function_global I.ok.kind hg (Calls.loadGlobal_global (by rw [I.ok.glob]; exact I.mod.glob.keeps I.bk) hm h) hd
theorem ld_blt {E : Value → Shared → Prop} {pins : List (Addr × Obj)} {s : Shared} {σ : St} {H : Hp} {x : Str} {u : Value} {pos : Pos} {Q : Value → Shared → Prop} (I : Inv X pins σ H s) (hg : Gl X x) (hm : X.mg x = none) (hv : bootBuiltins x = some u) (h : Q u s)
    (hn : x ≠ "__name__" := by decide) (hd : (x == ("__debug__" : Str)) = false := by decide) : wpAny (model X.prog X.w) X.A (eval (.Name x pos) X.env) Q E s := by
  obtain ⟨mb, h1, h2⟩ := I.mod.blt
  exact Calls.Name_function_global I.ok.kind hg (Calls.loadGlobal_builtin (by rw [I.ok.glob]; exact I.mod.glob.keeps I.bk) hm (by rw [I.ok.blt]; exact h1.keeps I.bk) ((h2 x hn).trans hv) h) hd
/-- a module's constant, a class, a function, as a value -/
theorem pe_glob {x : Str} {v : V} {u : Value} {pos : Pos} (hg : Gl X x) (hm : X.mg x = some u) (r : RelV v u) (hd : (x == ("__debug__" : Str)) = false := by decide) : PE X (.Name x pos) (tC v) :=
  fun _ _ _ H _ I h => ld_glob I hg hm ⟨v, H, I, r, h⟩ hd
theorem pe_bltn {x : Str} {v : V} {u : Value} {pos : Pos} (hg : Gl X x) (hm : X.mg x = none) (hv : bootBuiltins x = some u) (r : RelV v u) (hn : x ≠ "__name__" := by decide) (hd : (x == ("__debug__" : Str)) = false := by decide) : PE X (.Name x pos) (tC v) :=
  fun _ _ _ H _ I h => ld_blt I hg hm hv ⟨v, H, I, r, h⟩ hn hd

variable {a b : Expr} {ta tb : TE} {pos : Pos}
def PC (X : Cx) (op : CmpOp) (a b : Expr) (t : TE) : Prop :=
  ∀ (pins : List (Addr × Obj)) (s : Shared) (σ : St) (H : Hp) (Q : VK), Inv X pins σ H s → t σ H Q →
    wpAny (model X.prog X.w) X.A (eval a X.env) (fun v s₁ => wpAny (model X.prog X.w) X.A (eval b X.env) (fun u s₂ => wpAny (model X.prog X.w) X.A (compareOp op v u) (EP X pins σ Q) X.xe s₂) X.xe s₁) X.xe s
theorem nobehind (b : Expr) {op : CmpOp} (h : op ≠ .In) (h2 : op ≠ .NotIn) : behindInMarks op b = false := by
  have e1 : (op == CmpOp.In) = false := by cases op <;> first | rfl | exact absurd rfl h
  have e2 : (op == CmpOp.NotIn) = false := by cases op <;> first | rfl | exact absurd rfl h2
  cases b <;> simp [behindInMarks, e1, e2]
/-- is None -/
def tIsN (ta : TE) : TE := fun σ H Q => ta σ H fun x H1 => Q (.bl (decide (x = .non))) H1
theorem RelV.none_iff {x : V} {v : Value} (r : RelV x v) : (v == Value.none) = decide (x = .non) := by
  cases x with
  | non => cases r; rfl
  | bl _ => cases r; rfl
  | int _ => obtain ⟨t, rfl⟩ := r; rfl
  | str _ => obtain ⟨t, rfl⟩ := r; rfl
  | byt _ => obtain ⟨t, rfl⟩ := r; rfl
  | flt _ => obtain ⟨t, rfl⟩ := r; rfl
  | ref _ => cases r; rfl
  | ty _ => cases r; rfl
theorem pc_isN {j pos'} (ha : PE X a ta) : PC X .Is a (.Constant .none j pos') (tIsN ta) := by
  intro pins s σ H Q I h
  refine thn (ha pins s σ H _ I h) fun v s1 ⟨x, H1, I1, r1, q1⟩ => ?_
  exact Constant_none (is_none_gen ⟨.bl _, H1, I1, by rw [r1.none_iff]; rfl, q1⟩)
/-- a comparison as a value, as a test -/
def tB (t : TE) : TT := fun σ H Q => t σ H fun x H1 => ∃ c, x = .bl c ∧ Q c H1
theorem pe_cmp {op : CmpOp} {t : TE} (h : PC X op a b t) (h1 : behindInMarks op b = false := by first | exact nobehind _ (by decide) (by decide) | rfl) : PE X (.Compare a [op] [b] pos) t := fun pins s σ H Q I hw => wpAny_Compare1 (h pins s σ H Q I hw) h1
theorem pt_cmp {op : CmpOp} {t : TE} (h : PC X op a b t) (h1 : behindInMarks op b = false := by first | exact nobehind _ (by decide) (by decide) | rfl) : PT X (.Compare a [op] [b] pos) (tB t) := by
  intro pins s σ H Q I hw
  refine wpAny_isTrue_Compare1 (thn (h pins s σ H _ I hw) fun v s1 h1 => thn h1 fun u s2 h2 => thn h2 fun c s3 ⟨x, H1, I1, r1, q1⟩ => ?_) h1
  obtain ⟨d, rfl, q⟩ := q1
  cases r1
  exact wpAny_truthy_bool ⟨H1, I1, q⟩
/-- an expression whose value is a bool, as a test -/
theorem pt_val {e : Expr} {t : TE} (h : PE X e t) (he : ∀ whole, isTrue e X.env whole = (do let v ← whole; standAt e.pos; holding [v] (truthy v)) := by intro _; rfl) : PT X e (tB t) := by
  intro pins s σ H Q I hw
  refine isTrue_plain (thn (h pins s σ H _ I hw) fun v s1 ⟨x, H1, I1, r1, q1⟩ => ?_) (he _)
  obtain ⟨d, rfl, q⟩ := q1
  cases r1
  exact wpAny_truthy_bool ⟨H1, I1, q⟩

variable {tA tB' : TT} {rest : List Expr}
def tAnd (t u : TT) : TT := fun σ H Q => t σ H fun c H1 => if c = true then u σ H1 Q else Q false H1
def tOr (t u : TT) : TT := fun σ H Q => t σ H fun c H1 => if c = true then Q true H1 else u σ H1 Q
def tNot (t : TT) : TT := fun σ H Q => t σ H fun c H1 => Q (!c) H1
theorem pw_and1 (ha : PT X a tA) : PW X (.BoolOp .And [a] pos) tA := by
  intro wh pins s σ H Q I h
  refine isTrue_and (thn (ha pins s σ H Q I h) fun c s1 e => ?_)
  cases c with
  | true => exact isTrue_and_nil e
  | false => exact e
theorem pw_or1 (ha : PT X a tA) : PW X (.BoolOp .Or [a] pos) tA := by
  intro wh pins s σ H Q I h
  refine isTrue_or (thn (ha pins s σ H Q I h) fun c s1 e => ?_)
  cases c with
  | false => exact isTrue_or_nil e
  | true => exact e
theorem pw_and (ha : PT X a tA) (hb : PW X (.BoolOp .And (b :: rest) pos) tB') : PW X (.BoolOp .And (a :: b :: rest) pos) (tAnd tA tB') := by
  intro wh pins s σ H Q I h
  refine isTrue_and (thn (ha pins s σ H _ I h) fun c s1 ⟨H1, I1, q1⟩ => ?_)
  cases c with
  | true => exact hb wh pins s1 σ H1 Q I1 q1
  | false => exact ⟨H1, I1, q1⟩
theorem pw_or (ha : PT X a tA) (hb : PW X (.BoolOp .Or (b :: rest) pos) tB') : PW X (.BoolOp .Or (a :: b :: rest) pos) (tOr tA tB') := by
  intro wh pins s σ H Q I h
  refine isTrue_or (thn (ha pins s σ H _ I h) fun c s1 ⟨H1, I1, q1⟩ => ?_)
  cases c with
  | true => exact ⟨H1, I1, q1⟩
  | false => exact hb wh pins s1 σ H1 Q I1 q1
theorem pt_not (ha : PT X a tA) : PT X (.UnaryOp .Not a pos) (tNot tA) := by
  intro pins s σ H Q I h
  exact isTrue_not (ha pins s σ H (fun c H1 => Q (!c) H1) I h)
/-- .. as values (bools) -/
def tAndV (ta tb : TE) : TE := fun σ H Q => ta σ H fun x H1 => ∃ c, x = .bl c ∧ if c = true then tb σ H1 Q else Q (.bl false) H1
def tOrV (ta tb : TE) : TE := fun σ H Q => ta σ H fun x H1 => ∃ c, x = .bl c ∧ if c = true then Q (.bl true) H1 else tb σ H1 Q
theorem pe_one {op} {t : TE} (h : PE X a t) : PE X (.BoolOp op [a] pos) t := fun pins s σ H Q I hw => BoolOp_one (h pins s σ H Q I hw)
theorem pe_and (ha : PE X a ta) (hb : PE X (.BoolOp .And (b :: rest) pos) tb) : PE X (.BoolOp .And (a :: b :: rest) pos) (tAndV ta tb) := by
  intro pins s σ H Q I h
  refine BoolOp_and (thn (ha pins s σ H _ I h) fun v s1 ⟨x, H1, I1, r1, q1⟩ => ?_)
  obtain ⟨c, rfl, q1⟩ := q1
  cases r1
  refine wpAny_truthy_bool ?_
  cases c with
  | true => exact hb pins s1 σ H1 Q I1 q1
  | false => exact ⟨.bl false, H1, I1, rfl, q1⟩
theorem pe_or (ha : PE X a ta) (hb : PE X (.BoolOp .Or (b :: rest) pos) tb) : PE X (.BoolOp .Or (a :: b :: rest) pos) (tOrV ta tb) := by
  intro pins s σ H Q I h
  refine BoolOp_or (thn (ha pins s σ H _ I h) fun v s1 ⟨x, H1, I1, r1, q1⟩ => ?_)
  obtain ⟨c, rfl, q1⟩ := q1
  cases r1
  refine wpAny_truthy_bool ?_
  cases c with
  | false => exact hb pins s1 σ H1 Q I1 q1
  | true => exact ⟨.bl true, H1, I1, rfl, q1⟩
/-- a if t else b -/
def tIf (t : TT) (ta tb : TE) : TE := fun σ H Q => t σ H fun c H1 => if c = true then ta σ H1 Q else tb σ H1 Q
theorem pe_ifExp {c : Expr} (hc : PT X c tA) (ha : PE X a ta) (hb : PE X b tb) : PE X (.IfExp c a b pos) (tIf tA ta tb) := by
  intro pins s σ H Q I h
  refine wpAny_IfExp (thn (hc pins s σ H _ I h) fun d s1 ⟨H1, I1, q1⟩ => ?_)
  cases d with
  | true => exact ha pins s1 σ H1 Q I1 q1
  | false => exact hb pins s1 σ H1 Q I1 q1
end
end L2

namespace L2
open PySem PySem.Spec PyProof.Rows

def SqL (K : PySem.W.Frag) (H : Hp) (a : Addr) (xs : List V) : Prop :=
  Rd H a (.lst xs) ∨
    ∃ (o : Obj) (its : Array Value) (n : Nat), K.lookup a = some o ∧ o.cls = .type "list" ∧ o.dict = none ∧ o.data = .seq its n ∧ its.size ≤ sizeLine ∧ Vals xs its.toList
def SqT (K : PySem.W.Frag) (H : Hp) (a : Addr) (xs : List V) : Prop :=
  Rd H a (.tup xs) ∨
    ∃ (o : Obj) (its : Array Value) (n : Nat), K.lookup a = some o ∧ o.cls = .type "tuple" ∧ o.data = .seq its n ∧ its.size ≤ sizeLine ∧ Vals xs its.toList
def absV : Value → Option V
  | .none => some .non
  | .bool b => some (.bl b)
  | .int i _ => some (.int i)
  | .str x _ => some (.str x)
  | .bytes b _ => some (.byt b)
  | .float b _ => some (.flt b)
  | .ref a => some (.ref a)
  | .type n => some (.ty n)
  | _ => none
theorem RelV.abs {x : V} {u : Value} (r : RelV x u) : absV u = some x := by
  cases x with
  | non => cases r; rfl
  | bl _ => cases r; rfl
  | int _ => obtain ⟨t, rfl⟩ := r; rfl
  | str _ => obtain ⟨t, rfl⟩ := r; rfl
  | byt _ => obtain ⟨t, rfl⟩ := r; rfl
  | flt _ => obtain ⟨t, rfl⟩ := r; rfl
  | ref _ => cases r; rfl
  | ty _ => cases r; rfl
theorem RelV.inj {x y : V} {u : Value} (r : RelV x u) (q : RelV y u) : x = y := Option.some.inj (r.abs.symm.trans q.abs)
theorem Vals.inj : ∀ {xs ys : List V} {us : List Value}, Vals xs us → Vals ys us → xs = ys
  | _, _, _, .nil, .nil => rfl
  | _, _, _, .cons r t, .cons r' t' => by rw [r.inj r', Vals.inj t t']
section
variable {X : Cx} {pins : List (Addr × Obj)} {σ : St} {H : Hp} {s : Shared} {a : Addr} {xs ys : List V}
theorem SqL.of {K : PySem.W.Frag} (h : H a = some (.lst xs)) : SqL K H a xs := .inl (.inl h)
theorem SqT.of {K : PySem.W.Frag} (h : H a = some (.tup xs)) : SqT K H a xs := .inl (.inl h)
theorem Inv.list (I : Inv X pins σ H s) (h : SqL X.K H a xs) : ∃ its : List Value, Vals xs its ∧ PlainL s.heap a its.toArray ∧ xs.length ≤ sizeLine := by
  rcases h with h | ⟨o, its, n, hk, hc, hd, hs, hz, r⟩
  · obtain ⟨z, its, n, r, e⟩ := h.ok I.hok
    exact ⟨its, r, ⟨_, n, e, rfl, rfl, rfl⟩, z⟩
  · refine ⟨its.toList, r, ⟨o, n, I.kIn a o hk, hc, hd, by simpa using hs⟩, ?_⟩
    have e := r.length
    simp only [Array.length_toList] at e
    omega
theorem Inv.tuple (I : Inv X pins σ H s) (h : SqT X.K H a xs) : ∃ its : List Value, Vals xs its ∧ IsTup s.heap a its.toArray ∧ xs.length ≤ sizeLine := by
  rcases h with h | ⟨o, its, n, hk, hc, hs, hz, r⟩
  · obtain ⟨z, its, r, p⟩ := h.ok I.hok
    exact ⟨its, r, p, z⟩
  · refine ⟨its.toList, r, ⟨o, I.kIn a o hk, hc, n, by simpa using hs⟩, ?_⟩
    have e := r.length
    simp only [Array.length_toList] at e
    omega
theorem Inv.list_inj (I : Inv X pins σ H s) (h : SqL X.K H a xs) (h' : SqL X.K H a ys) : xs = ys := by
  obtain ⟨its, r, ⟨o, n, e, _, _, d⟩, _⟩ := I.list h
  obtain ⟨its', r', ⟨o', n', e', _, _, d'⟩, _⟩ := I.list h'
  rw [e] at e'; cases e'
  rw [d] at d'
  injection d' with d1 _
  have : its = its' := by simpa using congrArg Array.toList d1
  subst this
  exact r.inj r'
theorem Inv.tuple_inj (I : Inv X pins σ H s) (h : SqT X.K H a xs) (h' : SqT X.K H a ys) : xs = ys := by
  obtain ⟨its, r, ⟨o, e, _, n, d⟩, _⟩ := I.tuple h
  obtain ⟨its', r', ⟨o', e', _, n', d'⟩, _⟩ := I.tuple h'
  rw [e] at e'; cases e'
  rw [d] at d'
  injection d' with d1 _
  have : its = its' := by simpa using congrArg Array.toList d1
  subst this
  exact r.inj r'
end

abbrev Cx.wish (X : Cx) (E : Value → Shared → Prop) : Cx := { X with xe := E }
/-- no exception leaves -/
abbrev Cx.nox (X : Cx) : Cx := X.wish fun _ _ => False
theorem Cx.Ok.wish {X : Cx} (ok : X.Ok) (E : Value → Shared → Prop) : (X.wish E).Ok :=
  ⟨ok.mod, ok.kind, ok.glob, ok.blt, ok.above, ok.inj, ok.has, ok.cab, ok.hd, ok.frames, ok.stk, ok.exf, ok.bs, ok.bsz, ok.noex, ok.exfs, ok.funs, ok.frf⟩
theorem Cx.Ok.unwish {X : Cx} {E : Value → Shared → Prop} (ok : (X.wish E).Ok) : X.Ok :=
  ⟨ok.mod, ok.kind, ok.glob, ok.blt, ok.above, ok.inj, ok.has, ok.cab, ok.hd, ok.frames, ok.stk, ok.exf, ok.bs, ok.bsz, ok.noex, ok.exfs, ok.funs, ok.frf⟩
section
variable {X : Cx} {pins : List (Addr × Obj)} {σ : St} {H : Hp} {s : Shared} {E : Value → Shared → Prop}
theorem Inv.wish (I : Inv X pins σ H s) (E : Value → Shared → Prop) : Inv (X.wish E) pins σ H s := ⟨I.ok.wish E, I.os, I.bare, I.base, I.loc, I.cell, I.free, I.freeC, I.pin, I.hok, I.len⟩
theorem Inv.unwish (I : Inv (X.wish E) pins σ H s) : Inv X pins σ H s := ⟨I.ok.unwish, I.os, I.bare, I.base, I.loc, I.cell, I.free, I.freeC, I.pin, I.hok, I.len⟩
theorem SP.unwish {D : Ends} {f : Flow} {s' : Shared} (h : SP (X.wish E) pins D f s') : SP X pins D f s' := by
  cases f with
  | next => obtain ⟨σ', H', I, q⟩ := h; exact ⟨σ', H', I.unwish, q⟩
  | brk => obtain ⟨σ', H', I, q⟩ := h; exact ⟨σ', H', I.unwish, q⟩
  | cont => obtain ⟨σ', H', I, q⟩ := h; exact ⟨σ', H', I.unwish, q⟩
  | ret u => obtain ⟨v, σ', H', I, r, q⟩ := h; exact ⟨v, σ', H', I.unwish, r, q⟩
theorem PSs.nox {st : List Stmt} {t : TS} (h : PSs X.nox st t) : PSs X st t := fun pins s σ H D I hw =>
  wpAny_mono (h pins s σ H D (I.wish _) hw) (fun _ _ q => q.unwish) fun _ _ z => False.elim z
end

section
variable {X : Cx} {st : Stmt} {rest : List Stmt} {t u : TS} {e : Expr} {te : TE} {pos : Pos}
def tNext : TS := fun D σ H => D.nx σ H
def tSeq (t u : TS) : TS := fun D σ H => t { D with nx := u D } σ H
theorem pss_nil : PSs X [] tNext := fun _ _ σ H _ I h => wpAny_execs_nil ⟨σ, H, I, h⟩
theorem pss_cons (h1 : PS X st t) (h2 : PSs X rest u) : PSs X (st :: rest) (tSeq t u) := by
  intro pins s σ H D I h
  refine wpAny_execs_cons (thn (h1 pins s σ H { D with nx := u D } I h) fun f s1 q => ?_)
  cases f with
  | next =>
    obtain ⟨σ', H', I', q⟩ := q
    exact h2 pins s1 σ' H' D I' q
  | ret v => exact q
  | brk => exact q
  | cont => exact q
theorem pss_one (h1 : PS X st t) : PSs X [st] t := by
  intro pins s σ H D I h
  refine wpAny_execs_cons (thn (h1 pins s σ H D I h) fun f s1 q => ?_)
  cases f with
  | next => exact wpAny_execs_nil q
  | ret v => exact q
  | brk => exact q
  | cont => exact q
/-- in a def's body nothing is shown -/
theorem Inv.quiet {pins : List (Addr × Obj)} {σ : St} {H : Hp} {s : Shared} (I : Inv X pins σ H s) : interactive X.env = false := by simp [interactive, I.ok.kind]
/-- an expression whose value is dropped -/
def tDrop (te : TE) : TS := fun D σ H => te σ H fun _ H1 => D.nx σ H1
theorem ps_expr (he : PE X e te) (hs : swapsWith e none pos.line X.env = pure false := by rfl) : PS X (.Expr e pos) (tDrop te) := by
  intro pins s σ H D I h
  exact wpAny_Expr_any (thn (he pins s σ H _ I h) fun v s1 ⟨x, H1, I1, r1, q1⟩ => ⟨σ, H1, I1, q1⟩) I.quiet hs
def tRet (te : TE) : TS := fun D σ H => te σ H D.rt
theorem ps_ret (he : PE X e te) : PS X (.Return (some e) pos) (tRet te) := by
  intro pins s σ H D I h
  exact wpAny_Return_some (thn (he pins s σ H _ I h) fun v s1 ⟨x, H1, I1, r1, q1⟩ => ⟨x, σ, H1, I1, r1, q1⟩)
def tIfS (c : TT) (t u : TS) : TS := fun D σ H => c σ H fun b H1 => if b = true then t D σ H1 else u D σ H1
theorem ps_if {c : Expr} {a b : List Stmt} {tc : TT} (hc : PT X c tc) (ha : PSs X a t) (hb : PSs X b u) : PS X (.If c a b pos) (tIfS tc t u) := by
  intro pins s σ H D I h
  refine wpAny_If (thn (hc pins s σ H _ I h) fun d s1 ⟨H1, I1, q1⟩ => ?_)
  cases d with
  | true => exact ha pins s1 σ H1 D I1 q1
  | false => exact hb pins s1 σ H1 D I1 q1
end

abbrev TG := V → St → Hp → (St → Hp → Prop) → Prop
abbrev TGs := List V → St → Hp → (St → Hp → Prop) → Prop
def PG (X : Cx) (target : Expr) (t : TG) : Prop :=
  ∀ (pins : List (Addr × Obj)) (s : Shared) (σ : St) (H : Hp) (v : V) (u : Value) (Q : St → Hp → Prop), Inv X pins σ H s → RelV v u → t v σ H Q →
    wpAny (model X.prog X.w) X.A (assign target X.env u) (fun _ s' => ∃ σ' H', Inv X pins σ' H' s' ∧ Q σ' H') X.xe s
/-- several targets, one after another -/
def PGs (X : Cx) (ts : List Expr) (t : TGs) : Prop :=
  ∀ (pins : List (Addr × Obj)) (s : Shared) (σ : St) (H : Hp) (vs : List V) (us : List Value) (Q : St → Hp → Prop), Inv X pins σ H s → Vals vs us → t vs σ H Q →
    wpAny (model X.prog X.w) X.A (assignInOrder ((assignEach ts X.env).map (·.2)) us) (fun _ s' => ∃ σ' H', Inv X pins σ' H' s' ∧ Q σ' H') X.xe s
/-- o[i] = v, by values -/
abbrev TSet := V → V → V → Hp → (Hp → Prop) → Prop
def PSet (X : Cx) (t : TSet) : Prop :=
  ∀ (pins : List (Addr × Obj)) (s : Shared) (σ : St) (H : Hp) (o i v : V) (ov iv u : Value) (Q : Hp → Prop), Inv X pins σ H s → RelV o ov → RelV i iv → RelV v u → t o i v H Q →
    wpAny (model X.prog X.w) X.A (setItem ov iv u) (fun _ s' => ∃ H', Inv X pins σ H' s' ∧ Q H') X.xe s
section
variable {X : Cx} {pos : Pos}
def gName (i : Nat) : TG := fun v σ H Q => Q (σ.set i (some v)) H
theorem pg_name {i : Nat} {x : Str} (hN : X.N.Nodup) (hi : X.N[i]? = some x) (hx : Loc X.env.scope x) (hf : X.fn x = true ∨ X.env.scope.names.lookup x = some .local := by first | exact .inl rfl | exact .inr rfl | assumption) : PG X (.Name x pos) (gName i) := by
  intro pins s σ H v u Q I r h
  exact wpAny_assign_Name (store_ok I hN hi hx r (fun s' I' => ⟨_, H, I', h⟩) hf)
def gNil : TGs := fun vs σ H Q => vs = [] ∧ Q σ H
def gCons (t : TG) (u : TGs) : TGs := fun vs σ H Q => ∃ v r, vs = v :: r ∧ t v σ H fun σ' H' => u r σ' H' Q
theorem pgs_nil : PGs X [] gNil := by
  intro pins s σ H vs us Q I r h
  obtain ⟨e, h⟩ := h
  subst e
  cases r
  exact assignInOrder_nil ⟨σ, H, I, h⟩
theorem pgs_cons {e : Expr} {es : List Expr} {t : TG} {u : TGs} (h1 : PG X e t) (h2 : PGs X es u)
    (hs : (assignEach (e :: es) X.env).map (·.2) = assign e X.env :: (assignEach es X.env).map (·.2) := by rfl) : PGs X (e :: es) (gCons t u) := by
  intro pins s σ H vs us Q I r h
  obtain ⟨v, vr, e1, h⟩ := h
  subst e1
  cases r with
  | cons r rr =>
    rw [hs]
    refine assignInOrder_cons (thn (h1 pins s σ H _ _ _ I r h) fun _ s1 ⟨σ1, H1, I1, q1⟩ => ?_)
    exact h2 pins s1 σ1 H1 _ _ Q I1 rr q1
/-- (a, b, ..) = a tuple of that length -/
def gTup (K : PySem.W.Frag) (n : Nat) (t : TGs) : TG := fun v σ H Q => ∃ a xs, v = .ref a ∧ SqT K H a xs ∧ xs.length = n ∧ t xs σ H Q
theorem pg_tup {es : List Expr} {k : Nat} {t : TGs} {n : Nat} (hc : X.calm = true) (h : PGs X es t)
    (hn : (assignEach es X.env).length = n := by rfl) (hst : (assignEach es X.env).findIdx? (·.1) = none := by rfl) : PG X (.Tuple es k pos) (gTup X.K n t) := by
  intro pins s σ H v u Q I r hw
  obtain ⟨a, xs, e1, hq, hl, hw⟩ := hw
  subst e1
  cases r
  obtain ⟨its, rv, ht, hz⟩ := I.tuple hq
  refine assign_Tuple_tuple (I.ok.hd hc) ht (by simp [hn, ← hl, rv.length]) hst fun h' hx => ?_
  have I1 : Inv X pins σ H { s with heap := h' } := I.kept (t' := s.toks) fun b o e => hx b o (Nat.ne_of_lt (Heap.lt_size e)) e
  exact h pins _ σ H xs _ Q I1 (by simpa using rv) hw
/-- o[i] = .. -/
def gSub (to ti : TE) (t : TSet) : TG := fun v σ H Q => to σ H fun o H1 => ti σ H1 fun i H2 => t o i v H2 fun H3 => Q σ H3
theorem pg_sub {o i : Expr} {to ti : TE} {t : TSet} (ho : PE X o to) (hi : PE X i ti) (hs : PSet X t)
    (ha : ∀ v, assign (.Subscript o i pos) X.env v = (do
      let ov ← holding [v] (eval o X.env)
      let iv ← holding [v, ov] (eval i X.env)
      standAt pos
      holding [v, ov, iv] (setItem ov iv v)
      release [v, ov, iv] []) := by intro _; rfl) : PG X (.Subscript o i pos) (gSub to ti t) := by
  intro pins s σ H v u Q I r h
  rw [ha]
  refine wpAny_bind (wpAny_holding (thn (ho pins s σ H _ I h) fun ov s1 ⟨x, H1, I1, r1, q1⟩ => ?_))
  refine wpAny_bind (wpAny_holding (thn (hi pins s1 σ H1 _ I1 q1) fun iv s2 ⟨y, H2, I2, r2, q2⟩ => ?_))
  refine wpAny_bind (wpAny_standAt (wpAny_bind (wpAny_holding (thn (hs pins s2 σ H2 x y v ov iv u _ I2 r1 r2 r q2) fun _ s3 ⟨H3, I3, q3⟩ => ?_))))
  exact wpAny_release ⟨σ, H3, I3, q3⟩
/-- target = value -/
def tAsg (te : TE) (g : TG) : TS := fun D σ H => te σ H fun x H1 => g x σ H1 D.nx
theorem ps_asg {tg e : Expr} {te : TE} {g : TG} (he : PE X e te) (hg : PG X tg g) (hs : swapsWithSole [tg] e pos.line X.env = pure false := by rfl) (hw : swappedStores [tg] e X.env = pure none := by rfl)
    (h1 : (assignEach [tg] X.env).map (·.2) = [assign tg X.env] := by rfl) : PS X (.Assign [tg] e pos) (tAsg te g) := by
  intro pins s σ H D I h
  refine wpAny_Assign_stores (thn (he pins s σ H _ I h) fun v s1 ⟨x, H1, I1, r1, q1⟩ => ?_) hs hw
  rw [h1]
  exact thn (hg pins s1 σ H1 x v _ I1 r1 q1) fun _ s2 q => q
/-- name = value -/
theorem ps_set {i : Nat} {x : Str} {e : Expr} {te : TE} {pos' : Pos} (hN : X.N.Nodup) (hi : X.N[i]? = some x) (hx : Loc X.env.scope x) (he : PE X e te) (hs : swapsWith e (some (.Name x pos')) pos.line X.env = pure false := by rfl) (hf : X.fn x = true ∨ X.env.scope.names.lookup x = some .local := by first | exact .inl rfl | exact .inr rfl | assumption) :
    PS X (.Assign [.Name x pos'] e pos) (tAsg te (gName i)) := by
  intro pins s σ H D I h
  refine wpAny_Assign_Name (thn (he pins s σ H _ I h) fun v s1 ⟨y, H1, I1, r1, q1⟩ => ?_) hs
  exact store_ok I1 hN hi hx r1 (fun s2 I2 => ⟨_, H1, I2, q1⟩) hf
end

section
variable {X : Cx} {pos : Pos}
end

/-- at turn i: it yields x (the heap may grow), or it stops -/
structure It where
  go : Nat → Hp → Prop
  yld : Nat → Hp → V → Hp → Prop
  stop : Nat → Hp → Prop
/-- the iterator's own objects may turn: they are not the frame's, not pinned, younger than the entry (or a comprehension's own) -/
def FpOk (X : Cx) (pins : List (Addr × Obj)) (H : Hp) (b : Addr) : Prop :=
  H b = none ∧ b ≠ X.env.locals ∧ b ∉ X.fs ∧ (b ∈ X.ex ∨ X.s₀.heap.objs.size ≤ b) ∧ (∀ x c, X.env.cells.lookup x = some c → c ≠ b) ∧ ∀ p ∈ X.pn ++ pins, p.1 ≠ b
theorem Inv.fpOk {X : Cx} {pins : List (Addr × Obj)} {σ : St} {H H' : Hp} {s : Shared} {b : Addr} (I : Inv X pins σ H s) (hb : s.heap.objs.size ≤ b) (hn : H' b = none) : FpOk X pins H' b := by
  refine ⟨hn, Nat.ne_of_gt (Nat.lt_of_lt_of_le I.lt hb), I.nofs hb, .inr (Nat.le_trans I.sz hb), fun x c e z => ?_, fun p hp z => ?_⟩
  · obtain ⟨v, q⟩ := I.cell x c e
    exact absurd (Nat.lt_of_lt_of_le q.lt (by rw [z]; exact hb)) (Nat.lt_irrefl _)
  · exact absurd (Nat.lt_of_lt_of_le (Heap.lt_size (I.pin p hp).1) (by rw [z]; exact hb)) (Nat.lt_irrefl _)
structure Turn (P : Program) (w : World) (K : PySem.W.Frag) (tg : Expr) (J : It) (fp : List Addr) (it : Addr) (tn : Nat → Heap → Prop) : Prop where
  mem : it ∈ fp
  obj : ∀ i h, tn i h → ∀ b ∈ fp, ∃ o, h.get? b = some o ∧ ∀ v, o.data ≠ .cell v
  keep : ∀ i h h', tn i h → (∀ b ∈ fp, ∀ o, h.get? b = some o → h'.get? b = some o) → tn i h'
  item : ∀ (X : Cx), X.prog = P → X.w = w → X.K = K → X.calm = true → ∀ (i : Nat) (pins : List (Addr × Obj)) (s : Shared) (σ : St) (H : Hp) (E : Value → Shared → Prop), Inv X pins σ H s → (∀ b ∈ fp, FpOk X pins H b) → tn i s.heap → J.go i H →
    wpAny (model P w) X.A (pyNext (.ref it)) (fun r s1 => ∃ u, r = some u ∧
      wpAny (model P w) X.A (letOwnedTupleGo tg (.ref it) u) (fun _ s2 => ∃ x H', Inv X pins σ H' s2 ∧ RelV x u ∧ J.yld i H x H' ∧ tn (i + 1) s2.heap ∧ ∀ b ∈ fp, H' b = none) E s1) E s
  done : ∀ (X : Cx), X.prog = P → X.w = w → X.K = K → X.calm = true → ∀ (i : Nat) (pins : List (Addr × Obj)) (s : Shared) (σ : St) (H : Hp) (E : Value → Shared → Prop), Inv X pins σ H s → (∀ b ∈ fp, FpOk X pins H b) → tn i s.heap → J.stop i H →
    wpAny (model P w) X.A (pyNext (.ref it)) (fun r s1 => r = none ∧ Inv X pins σ H s1) E s
  self : ∀ (A : Around) (i : Nat) (s : Shared) (Q : Value → Shared → Prop) (E : Value → Shared → Prop), tn i s.heap → Q (.ref it) s → wpAny (model P w) A (pyIter (.ref it)) Q E s
abbrev TI := St → Hp → (It → Hp → Prop) → Prop
/-- an iterator has come -/
def PIE (X : Cx) (pins : List (Addr × Obj)) (σ : St) (tg : Expr) (R : It → Hp → Prop) (itv : Value) (s2 : Shared) : Prop :=
  ∃ (it : Addr) (fp : List Addr) (tn : Nat → Heap → Prop) (J : It) (H' : Hp), itv = .ref it ∧ Inv X pins σ H' s2 ∧ Turn X.prog X.w X.K tg J fp it tn ∧ tn 0 s2.heap ∧ (∀ b ∈ fp, FpOk X pins H' b) ∧ R J H'
def PI (X : Cx) (tg iter : Expr) (wi : TI) : Prop :=
  ∀ (pins : List (Addr × Obj)) (s : Shared) (σ : St) (H : Hp) (R : It → Hp → Prop), Inv X pins σ H s → wi σ H R →
    wpAny (model X.prog X.w) X.A (eval iter X.env) (fun v s1 => wpAny (model X.prog X.w) X.A (pyIter v) (PIE X pins σ tg R) X.xe s1) X.xe s

/-- the step ahead of the store is nothing for an iterator that keeps no tuple -/
theorem go_of {M : Model} {A : Around} {E : Value → Shared → Prop} {s : Shared} {tg : Expr} {it : Addr} {u : Value} {o : Obj} {n : String} {vs : Array Value} {Q : Unit → Shared → Prop} (ho : s.heap.get? it = some o) (hc : o.cls = .type n) (hd : o.data = .fields vs)
    (hn : ["enumerate", "zip", "dict_itemiterator", "dict_reverseitemiterator", "odict_iterator", "itertools.zip_longest", "itertools.pairwise"].contains n = false) (hQ : Q () s) : wpAny M A (letOwnedTupleGo tg (.ref it) u) Q E s := by
  unfold letOwnedTupleGo
  cases tg <;> first
    | exact wpAny_pure hQ
    | (cases u <;> first
        | exact wpAny_pure hQ
        | (refine wpAny_bind (wpAny_load ho ?_)
           rw [hc, hd]
           show wpAny M A (if (["enumerate", "zip", "dict_itemiterator", "dict_reverseitemiterator", "odict_iterator", "itertools.zip_longest", "itertools.pairwise"].contains n && vs[0]? == some (rawInt _)) = true then _ else _) Q E s
           rw [if_neg (by intro h; rw [hn, Bool.false_and] at h; cases h)]
           exact wpAny_pure hQ))

/-- the list at a, as it stands at each turn (a loop may append to it) -/
def Itl (K : PySem.W.Frag) (a : Addr) : It :=
  ⟨fun i H => ∃ xs x, SqL K H a xs ∧ xs[i]? = some x, fun i H x H' => H' = H ∧ ∀ xs, SqL K H a xs → xs[i]? = some x, fun i H => ∃ xs, SqL K H a xs ∧ xs.length ≤ i⟩
def Itt (K : PySem.W.Frag) (a : Addr) : It :=
  ⟨fun i H => ∃ xs x, SqT K H a xs ∧ xs[i]? = some x, fun i H x H' => H' = H ∧ ∀ xs, SqT K H a xs → xs[i]? = some x, fun i H => ∃ xs, SqT K H a xs ∧ xs.length ≤ i⟩
/-- lo, lo + 1, .. (n of them) -/
def Itr (lo : Int) (n : Nat) : It := ⟨fun i _ => i < n, fun i H x H' => H' = H ∧ x = .int (lo + i), fun i _ => n ≤ i⟩
theorem turn_list {P : Program} {w : World} {K : PySem.W.Frag} {tg : Expr} (a it : Addr) : Turn P w K tg (Itl K a) [it] it (fun i h => h.IsListIter it a i) where
  mem := by simp
  obj := fun i h st b hb => by
    have e : b = it := by simpa using hb
    subst e
    obtain ⟨o, e, c, d⟩ := st
    exact ⟨o, e, fun v z => by rw [d] at z; cases z⟩
  keep := fun i h h' st k => st.at fun o e => k it (by simp) o e
  item := by
    intro X hP hw hK hc i pins s σ H E I hf st hg
    subst hP hw hK
    obtain ⟨xs, x, hq, hx⟩ := hg
    obtain ⟨its, rv, p, hz⟩ := I.list hq
    obtain ⟨u, hu, ru⟩ := rv.get hx
    obtain ⟨f0, f1, f2, f3, f4, f5⟩ := hf it (by simp)
    refine wpAny_pyNext_list_item st p.isList (x := u) (by simpa using hu) fun h' st' sb => ?_
    have I1 : Inv X pins σ H { s with heap := h' } := I.turned (t' := s.toks) (fun b o hb e => (sb.2 b hb).trans e) f0 f1 f3 f4 f5
    obtain ⟨o, e, c, d⟩ := id st'
    exact ⟨u, rfl, go_of (s := { s with heap := h' }) e c d (by decide) ⟨x, H, I1, ru, ⟨rfl, fun ys hy => by rw [I.list_inj hy hq]; exact hx⟩, st', fun b hb => (hf b hb).1⟩⟩
  done := by
    intro X hP hw hK hc i pins s σ H E I hf st hg
    subst hP hw hK
    obtain ⟨xs, hq, hx⟩ := hg
    obtain ⟨its, rv, p, hz⟩ := I.list hq
    obtain ⟨f0, f1, f2, f3, f4, f5⟩ := hf it (by simp)
    have hl := rv.length
    exact wpAny_pyNext_list_end (I.ok.hd hc) st p.isList (by simp; omega) fun h' eb => ⟨rfl, I.turned (t' := s.toks) (fun b o hb e => eb b o hb e) f0 f1 f3 f4 f5⟩
  self := fun _ _ _ _ _ st h => wpAny_pyIter_listiter st h
theorem turn_tuple {P : Program} {w : World} {K : PySem.W.Frag} {tg : Expr} (a it : Addr) : Turn P w K tg (Itt K a) [it] it (fun i h => h.IsTupleIter it a i) where
  mem := by simp
  obj := fun i h st b hb => by
    have e : b = it := by simpa using hb
    subst e
    obtain ⟨o, e, c, d⟩ := st
    exact ⟨o, e, fun v z => by rw [d] at z; cases z⟩
  keep := fun i h h' st k => st.at fun o e => k it (by simp) o e
  item := by
    intro X hP hw hK hc i pins s σ H E I hf st hg
    subst hP hw hK
    obtain ⟨xs, x, hq, hx⟩ := hg
    obtain ⟨its, rv, p, hz⟩ := I.tuple hq
    obtain ⟨u, hu, ru⟩ := rv.get hx
    obtain ⟨f0, f1, f2, f3, f4, f5⟩ := hf it (by simp)
    refine wpAny_pyNext_tuple_item st (show s.heap.IsTuple a its.toArray from p) (x := u) (by simpa using hu) fun h' st' sb => ?_
    have I1 : Inv X pins σ H { s with heap := h' } := I.turned (t' := s.toks) (fun b o hb e => (sb.2 b hb).trans e) f0 f1 f3 f4 f5
    obtain ⟨o, e, c, d⟩ := id st'
    exact ⟨u, rfl, go_of (s := { s with heap := h' }) e c d (by decide) ⟨x, H, I1, ru, ⟨rfl, fun ys hy => by rw [I.tuple_inj hy hq]; exact hx⟩, st', fun b hb => (hf b hb).1⟩⟩
  done := by
    intro X hP hw hK hc i pins s σ H E I hf st hg
    subst hP hw hK
    obtain ⟨xs, hq, hx⟩ := hg
    obtain ⟨its, rv, p, hz⟩ := I.tuple hq
    obtain ⟨f0, f1, f2, f3, f4, f5⟩ := hf it (by simp)
    have hl := rv.length
    exact wpAny_pyNext_tuple_end (I.ok.hd hc) st (show s.heap.IsTuple a its.toArray from p) (by simp; omega) fun h' eb => ⟨rfl, I.turned (t' := s.toks) (fun b o hb e => eb b o hb e) f0 f1 f3 f4 f5⟩
  self := fun _ _ _ _ _ st h => wpAny_pyIter_tupleiter st h
theorem turn_range {P : Program} {w : World} {K : PySem.W.Frag} {tg : Expr} (it : Addr) (lo : Int) (n : Nat) : Turn P w K tg (Itr lo n) [it] it (fun i h => IsRangeIter h it (lo + (i : Nat) * 1) ((n : Int) - (i : Nat)) 1) where
  mem := by simp
  obj := fun i h st b hb => by
    have e : b = it := by simpa using hb
    subst e
    exact ⟨_, st, fun v z => by
      have z' : Data.fields _ = Data.cell v := z
      cases z'⟩
  keep := fun i h h' st k => k it (by simp) _ st
  item := by
    intro X hP hw hK hc i pins s σ H E I hf st hg
    subst hP hw hK
    obtain ⟨f0, f1, f2, f3, f4, f5⟩ := hf it (by simp)
    have W := Walks.range (prog := X.prog) (w := X.w) (I.ok.hd hc) it lo 1 n
    refine W.item i s _ _ hg st fun v h' tk hv st' kk => ?_
    obtain ⟨t, rfl⟩ := hv
    have I1 : Inv X pins σ H { s with heap := h', toks := tk } := I.turned (fun b o hb e => kk b o (by simpa using hb) e) f0 f1 f3 f4 f5
    refine ⟨_, rfl, go_of (s := { s with heap := h', toks := tk }) (n := "range_iterator") st' rfl rfl (by decide) ⟨.int (lo + i), H, I1, ⟨t, ?_⟩, ⟨rfl, rfl⟩, st', fun b hb => (hf b hb).1⟩⟩
    rw [Int.mul_one]
  done := by
    intro X hP hw hK hc i pins s σ H E I hf st hg
    subst hP hw hK
    obtain ⟨f0, f1, f2, f3, f4, f5⟩ := hf it (by simp)
    exact wpAny_pyNext_range_end (I.ok.hd hc) st (by have : n ≤ i := hg; omega) fun h' eb => ⟨rfl, I.turned (t' := s.toks) (fun b o hb e => eb b o hb e) f0 f1 f3 f4 f5⟩
  self := fun _ _ _ _ _ st h => wpAny_pyIter_rangeiter st h
end L2

namespace L2
open PySem PySem.Spec PyProof.Rows
section
variable {X : Cx} {tg : Expr}
def iList (K : PySem.W.Frag) (tl : TE) : TI := fun σ H R => tl σ H fun x H1 => ∃ a, x = .ref a ∧ (∃ xs, SqL K H1 a xs) ∧ R (Itl K a) H1
def iTup (K : PySem.W.Frag) (tl : TE) : TI := fun σ H R => tl σ H fun x H1 => ∃ a, x = .ref a ∧ (∃ xs, SqT K H1 a xs) ∧ R (Itt K a) H1
theorem pi_list {l : Expr} {tl : TE} (hl : PE X l tl) : PI X tg l (iList X.K tl) := by
  intro pins s σ H R I h
  refine thn (hl pins s σ H _ I h) fun v s1 ⟨x, H1, I1, r1, q1⟩ => ?_
  obtain ⟨a, e, ⟨xs, hq⟩, q⟩ := q1
  subst e
  cases r1
  obtain ⟨its, rv, p, hz⟩ := I1.list hq
  refine wpAny_pyIter_list p.isList ?_
  refine ⟨s1.heap.objs.size, [s1.heap.objs.size], _, _, H1, rfl, I1.kept (t' := s1.toks) fun b o e => Heap.get?_push_of_some _ e, turn_list a _, ⟨_, Heap.get?_push_size _ rfl, rfl, rfl⟩, fun b hb => ?_, q⟩
  have e : b = s1.heap.objs.size := by simpa using hb
  subst e
  exact I1.fpOk (Nat.le_refl _) (I1.hok.fresh (Nat.le_refl _))
theorem pi_tup {l : Expr} {tl : TE} (hl : PE X l tl) : PI X tg l (iTup X.K tl) := by
  intro pins s σ H R I h
  refine thn (hl pins s σ H _ I h) fun v s1 ⟨x, H1, I1, r1, q1⟩ => ?_
  obtain ⟨a, e, ⟨xs, hq⟩, q⟩ := q1
  subst e
  cases r1
  obtain ⟨its, rv, p, hz⟩ := I1.tuple hq
  refine wpAny_pyIter_tuple (show s1.heap.IsTuple a its.toArray from p) ?_
  refine ⟨s1.heap.objs.size, [s1.heap.objs.size], _, _, H1, rfl, I1.kept (t' := s1.toks) fun b o e => Heap.get?_push_of_some _ e, turn_tuple a _, ⟨_, Heap.get?_push_size _ rfl, rfl, rfl⟩, fun b hb => ?_, q⟩
  have e : b = s1.heap.objs.size := by simpa using hb
  subst e
  exact I1.fpOk (Nat.le_refl _) (I1.hok.fresh (Nat.le_refl _))
/-- a range object just made, walked -/
theorem range_it {pins : List (Addr × Obj)} {σ : St} {H : Hp} {s : Shared} {R : It → Hp → Prop} {E : Value → Shared → Prop} {lo hi : Int} {t u v : Tok} {tk : Nat} (I : Inv X pins σ H s) (h1 : -(2 ^ 62) ≤ lo) (h2 : lo < 2 ^ 62) (h3 : -(2 ^ 62) ≤ hi) (h4 : hi < 2 ^ 62)
    (q : R (Itr lo (hi - lo).toNat) H) : wpAny (model X.prog X.w) X.A (pyIter (.ref s.heap.objs.size)) (PIE X pins σ tg R) E { s with heap := s.heap.push { cls := .type "range", data := .fields #[.int lo t, .int hi u, .int 1 v] }, toks := tk } := by
  refine wpAny_pyIter_range (IsRange.new ..) (small_one h1 h2 h3 h4) ?_
  have I1 : Inv X pins σ H { s with heap := s.heap.push { cls := .type "range", data := .fields #[.int lo t, .int hi u, .int 1 v] }, toks := tk } := I.kept fun b o e => Heap.get?_push_of_some _ e
  refine ⟨(s.heap.push { cls := .type "range", data := .fields #[.int lo t, .int hi u, .int 1 v] }).objs.size, [(s.heap.push { cls := .type "range", data := .fields #[.int lo t, .int hi u, .int 1 v] }).objs.size], _, _, H, rfl,
    I1.kept (t' := tk) fun b o e => Heap.get?_push_of_some _ e, turn_range _ lo (hi - lo).toNat, ?_, fun b hb => ?_, q⟩
  · have e1 : lo + ((0 : Nat) : Int) * 1 = lo := by simp
    have e2 : (((hi - lo).toNat : Nat) : Int) - ((0 : Nat) : Int) = Builtin.Range.rangeSize lo hi 1 := by rw [rangeSize_one]; split <;> omega
    show IsRangeIter _ _ (lo + ((0 : Nat) : Int) * 1) ((((hi - lo).toNat : Nat) : Int) - ((0 : Nat) : Int)) 1
    rw [e1, e2]
    exact Heap.get?_push_size _ rfl
  · have e : b = (s.heap.push { cls := .type "range", data := .fields #[.int lo t, .int hi u, .int 1 v] }).objs.size := by simpa using hb
    subst e
    exact I1.fpOk (Nat.le_refl _) (I1.hok.fresh (Nat.le_refl _))
def iRng1 (ta : TA) : TI := fun σ H R => ta σ H fun vs H1 => ∃ j : Int, vs = [.int j] ∧ -(2 ^ 62) ≤ j ∧ j < 2 ^ 62 ∧ R (Itr 0 j.toNat) H1
def iRng2 (ta : TA) : TI := fun σ H R => ta σ H fun vs H1 => ∃ i j : Int, vs = [.int i, .int j] ∧ (-(2 ^ 62) ≤ i ∧ i < 2 ^ 62 ∧ -(2 ^ 62) ≤ j ∧ j < 2 ^ 62) ∧ R (Itr i (j - i).toNat) H1
theorem pi_range1 {a : Expr} {ta : TA} {p pos : Pos} (hg : Gl X "range") (hm : X.mg "range" = none) (ha : PA X [a] ta) (hs : starEach [a] X.env = [(false, eval a X.env)] := by rfl) : PI X tg (.Call (.Name "range" p) [a] [] pos) (iRng1 ta) := by
  intro pins s σ H R I h
  refine Call_ (ld_blt I hg hm boot_range (PyProof.Rows.callWith_type1 (thn (ha pos pins s σ H _ I h) fun us s1 ⟨vs, H1, I1, r1, q1⟩ => ?_) hs rfl))
  obtain ⟨j, e, q1, q2, q⟩ := q1
  subst e
  cases r1 with
  | cons r rr =>
    cases rr
    obtain ⟨t, rfl⟩ := r
    exact call_range_1 (range_it I1 (by omega) (by omega) q1 q2 (by simpa using q))
theorem pi_range2 {a b : Expr} {ta : TA} {p pos : Pos} (hg : Gl X "range") (hm : X.mg "range" = none) (ha : PA X [a, b] ta) (hs : starEach [a, b] X.env = [(false, eval a X.env), (false, eval b X.env)] := by rfl) (hs2 : starEach [b] X.env = [(false, eval b X.env)] := by rfl) :
    PI X tg (.Call (.Name "range" p) [a, b] [] pos) (iRng2 ta) := by
  intro pins s σ H R I h
  refine Call_ (ld_blt I hg hm boot_range (PyProof.Rows.callWith_type1 (thn (ha pos pins s σ H _ I h) fun us s1 ⟨vs, H1, I1, r1, q1⟩ => ?_) (by rw [hs, hs2]) (by rw [hs2]; rfl)))
  obtain ⟨i, j, e, ⟨q1, q2, q3, q4⟩, q⟩ := q1
  subst e
  cases r1 with
  | cons r rr =>
    cases rr with
    | cons r' rr =>
      cases rr
      obtain ⟨t, rfl⟩ := r
      obtain ⟨t', rfl⟩ := r'
      exact call_range_2 (range_it I1 q1 q2 q3 q4 q)

/-- W: the invariant by the turn and a measure; N: what the body is to reach -/
def tFor (wi : TI) (g : TG) (tb : TS) : TS := fun D σ H => wi σ H fun J H1 => ∃ W : Nat → Nat → St → Hp → Prop, (∃ m, W 0 m σ H1) ∧ ∀ i m σ H, W i m σ H →
  (J.stop i H ∧ D.nx σ H) ∨ (J.go i H ∧ ∃ N : St → Hp → Prop, (∀ σ' H', N σ' H' → ∃ m', m' < m ∧ W (i + 1) m' σ' H') ∧ ∀ x H', J.yld i H x H' → g x σ H' fun σ2 H2 => tb { D with nx := N, ct := N, bk := D.nx } σ2 H2)
/-- the records at fp as they stand -/
def pinsAt (fp : List Addr) (h : Heap) : List (Addr × Obj) := fp.filterMap fun b => (h.get? b).map fun o => (b, o)
theorem mem_pinsAt {fp : List Addr} {h : Heap} {b : Addr} {o : Obj} (hb : b ∈ fp) (e : h.get? b = some o) : (b, o) ∈ pinsAt fp h := List.mem_filterMap.mpr ⟨b, hb, by rw [e]; rfl⟩
theorem of_pinsAt {fp : List Addr} {h : Heap} {p : Addr × Obj} (hp : p ∈ pinsAt fp h) : p.1 ∈ fp ∧ h.get? p.1 = some p.2 := by
  obtain ⟨b, hb, e⟩ := List.mem_filterMap.mp hp
  cases q : h.get? b with
  | none => rw [q] at e; cases e
  | some o =>
    rw [q] at e
    have e' : (b, o) = p := Option.some.inj e
    subst e'
    exact ⟨hb, q⟩
theorem Inv.pinned {pins : List (Addr × Obj)} {σ : St} {H : Hp} {s : Shared} {fp : List Addr} (I : Inv X pins σ H s) (hf : ∀ b ∈ fp, FpOk X pins H b) (ho : ∀ b ∈ fp, ∃ o, s.heap.get? b = some o ∧ ∀ v, o.data ≠ .cell v) : Inv X (pins ++ pinsAt fp s.heap) σ H s :=
  I.pins_of fun p hp => (List.mem_append.mp hp).elim (fun z => I.pin p (List.mem_append_right _ z)) fun z => by
    obtain ⟨hb, e⟩ := of_pinsAt z
    obtain ⟨f0, f1, f2, _⟩ := hf p.1 hb
    obtain ⟨o, e', d⟩ := ho p.1 hb
    rw [e] at e'; cases e'
    exact ⟨e, f0, f1, f2, d⟩
theorem Inv.unpinned {pins pl : List (Addr × Obj)} {σ : St} {H : Hp} {s : Shared} (I : Inv X (pins ++ pl) σ H s) : Inv X pins σ H s := I.pins_of fun p hp => I.pin p (List.mem_append_right _ (List.mem_append_left _ hp))
theorem ps_for {iter : Expr} {body : List Stmt} {wi : TI} {g : TG} {tb : TS} {pos : Pos} (hp : PassesOwn (model X.prog X.w) X.A X.env X.xe) (hc : X.calm = true) (hi : PI X tg iter wi) (hg : PG X tg g) (hb : PSs X body tb)
    (hs : ∀ x, foldedSetIterable iter X.env x = pure x := by intro _; rfl) : PS X (.For tg iter body [] pos) (tFor wi g tb) := by
  intro pins s σ H D I h
  refine wpAny_For (thn (hi pins s σ H _ I h) fun v s1 h1 => thn h1 fun itv s2 h2 => ?_) hs
  obtain ⟨it, fp, tn, J, H2, e, I2, T, st2, f2, W, ⟨m0, w0⟩, turn⟩ := h2
  subst e
  -- what stays true of the iterator's objects through the loop
  have stat : ∀ {H' : Hp}, (∀ b ∈ fp, H' b = none) → ∀ b ∈ fp, FpOk X pins H' b := fun hn b hb => ⟨hn b hb, (f2 b hb).2⟩
  refine codeAny_forLoop_any (fun n s' => ∃ i σ' H', Inv X pins σ' H' s' ∧ tn i s'.heap ∧ (∀ b ∈ fp, H' b = none) ∧ W i n σ' H') ?_ m0 ⟨0, σ, H2, I2, st2, fun b hb => (f2 b hb).1, w0⟩
  rintro n s3 ⟨i, σ3, H3, I3, st3, fr3, w3⟩
  rcases turn i n σ3 H3 w3 with ⟨stop, qn⟩ | ⟨go, N, hN, step⟩
  · refine wpAny_passesOwn hp (thn (T.done X rfl rfl rfl hc i pins s3 σ3 H3 X.xe I3 (stat fr3) st3 stop) fun r s4 ⟨hr, I4⟩ => ?_)
    subst hr
    exact wpAny_execs_nil ⟨σ3, H3, I4, qn⟩
  · refine wpAny_passesOwn hp (thn (T.item X rfl rfl rfl hc i pins s3 σ3 H3 X.xe I3 (stat fr3) st3 go) fun r s4 ⟨u, hr, h4⟩ => ?_)
    subst hr
    refine wpAny_passesOwn hp (thn h4 fun _ s5 ⟨x, H5, I5, r5, y5, st5, fr5⟩ => ?_)
    have I5' := I5.pinned (stat fr5) (T.obj _ _ st5)
    refine wpAny_passesOwn hp (thn (hg _ s5 σ3 H5 x u _ I5' r5 (step x H5 y5)) fun _ s6 ⟨σ6, H6, I6, q6⟩ => ?_)
    refine wpAny_passesOwn hp (thn (hb _ s6 σ6 H6 _ I6 q6) fun f s7 q7 => ?_)
    have again : ∀ {σ7 : St} {H7 : Hp}, Inv X (pins ++ pinsAt fp s5.heap) σ7 H7 s7 → N σ7 H7 → ∃ m, m < n ∧ ∃ i σ' H', Inv X pins σ' H' s7 ∧ tn i s7.heap ∧ (∀ b ∈ fp, H' b = none) ∧ W i m σ' H' := fun {σ7 H7} I7 n7 => by
      obtain ⟨m', hm, w7⟩ := hN σ7 H7 n7
      refine ⟨m', hm, i + 1, σ7, H7, I7.unpinned, T.keep _ _ _ st5 fun b hb o e => (I7.pin (b, o) (List.mem_append_right _ (List.mem_append_right _ (mem_pinsAt hb e)))).1, fun b hb => ?_, w7⟩
      obtain ⟨o, e, d⟩ := T.obj _ _ st5 b hb
      exact (I7.pin (b, o) (List.mem_append_right _ (List.mem_append_right _ (mem_pinsAt hb e)))).2.1
    cases f with
    | next => obtain ⟨σ7, H7, I7, n7⟩ := q7; exact again I7 n7
    | cont => obtain ⟨σ7, H7, I7, n7⟩ := q7; exact again I7 n7
    | brk => obtain ⟨σ7, H7, I7, q7⟩ := q7; exact ⟨σ7, H7, I7.unpinned, q7⟩
    | ret v => obtain ⟨x7, σ7, H7, I7, r7, q7⟩ := q7; exact ⟨x7, σ7, H7, I7.unpinned, r7, q7⟩
end

theorem for_range {lo : Int} {n : Nat} {g : TG} {tb : TS} {D : Ends} {σ : St} {H : Hp} (Pv : Nat → St → Hp → Prop) (h0 : Pv 0 σ H)
    (hs : ∀ i σ H, i < n → Pv i σ H → g (.int (lo + i)) σ H fun σ2 H2 => tb { D with nx := Pv (i + 1), ct := Pv (i + 1), bk := D.nx } σ2 H2) (hd : ∀ σ H, Pv n σ H → D.nx σ H) :
    ∃ W : Nat → Nat → St → Hp → Prop, (∃ m, W 0 m σ H) ∧ ∀ i m σ H, W i m σ H →
      ((Itr lo n).stop i H ∧ D.nx σ H) ∨ ((Itr lo n).go i H ∧ ∃ N : St → Hp → Prop, (∀ σ' H', N σ' H' → ∃ m', m' < m ∧ W (i + 1) m' σ' H') ∧ ∀ x H', (Itr lo n).yld i H x H' → g x σ H' fun σ2 H2 => tb { D with nx := N, ct := N, bk := D.nx } σ2 H2) := by
  refine ⟨fun i m σ H => m = n - i ∧ i ≤ n ∧ Pv i σ H, ⟨n, by simp, Nat.zero_le _, h0⟩, ?_⟩
  rintro i m σ H ⟨rfl, hi, p⟩
  by_cases hlt : i < n
  · refine .inr ⟨hlt, Pv (i + 1), fun σ' H' p' => ⟨n - (i + 1), by omega, rfl, hlt, p'⟩, fun x H' y => ?_⟩
    obtain ⟨e, y⟩ := y
    subst e y
    exact hs i σ _ hlt p
  · have e : i = n := by omega
    subst e
    exact .inl ⟨Nat.le_refl _, hd σ H p⟩
end L2

namespace L2
open PySem PySem.Spec PyProof.Rows

abbrev R2 := V → V → Hp → VK → Prop
/-- a two-place operation on values: f is binaryOp op, inplaceOp op or compareOp op -/
def OpR (X : Cx) (f : Value → Value → Sem Value) (r : R2) : Prop :=
  ∀ (pins : List (Addr × Obj)) (s : Shared) (σ : St) (H : Hp) (x y : V) (v u : Value) (Q : VK), Inv X pins σ H s → RelV x v → RelV y u → r x y H Q →
    wpAny (model X.prog X.w) X.A (f v u) (EP X pins σ Q) X.xe s
/-- a one-place operation -/
def UnR (X : Cx) (f : Value → Sem Value) (r : V → Hp → VK → Prop) : Prop :=
  ∀ (pins : List (Addr × Obj)) (s : Shared) (σ : St) (H : Hp) (x : V) (v : Value) (Q : VK), Inv X pins σ H s → RelV x v → r x H Q →
    wpAny (model X.prog X.w) X.A (f v) (EP X pins σ Q) X.xe s
/-- a call of a value that is known (a builtin, a type) with values -/
def CallR (X : Cx) (f : Value) (r : List V → Hp → VK → Prop) : Prop :=
  ∀ (pins : List (Addr × Obj)) (s : Shared) (σ : St) (H : Hp) (xs : List V) (us : List Value) (Q : VK), Inv X pins σ H s → Vals xs us → r xs H Q →
    wpAny (model X.prog X.w) X.A (call f us) (EP X pins σ Q) X.xe s
/-- a value's truth -/
def TruR (X : Cx) (r : V → Hp → (Bool → Hp → Prop) → Prop) : Prop :=
  ∀ (pins : List (Addr × Obj)) (s : Shared) (σ : St) (H : Hp) (x : V) (v : Value) (Q : Bool → Hp → Prop), Inv X pins σ H s → RelV x v → r x H Q →
    wpAny (model X.prog X.w) X.A (truthy v) (TP X pins σ Q) X.xe s

def tOp (r : R2) (ta tb : TE) : TE := fun σ H Q => ta σ H fun x H1 => tb σ H1 fun y H2 => r x y H2 Q
def tUn (r : V → Hp → VK → Prop) (ta : TE) : TE := fun σ H Q => ta σ H fun x H1 => r x H1 Q
/-- ints in, under C, and a value out -/
def rI (C : Int → Int → Prop) (g : Int → Int → V) : R2 := fun x y H Q => ∃ i j, x = .int i ∧ y = .int j ∧ C i j ∧ Q (g i j) H
def rI0 (g : Int → Int → V) : R2 := fun x y H Q => ∃ i j, x = .int i ∧ y = .int j ∧ Q (g i j) H
def rU (g : Int → V) : V → Hp → VK → Prop := fun x H Q => ∃ i, x = .int i ∧ Q (g i) H

section
variable {X : Cx} {a b c : Expr} {ta tb tc : TE} {pos : Pos}

theorem binT (ha : PE X a ta) (hb : PE X b tb) {pins : List (Addr × Obj)} {s : Shared} {σ : St} {H : Hp} {R : V → V → Hp → Prop} (I : Inv X pins σ H s)
    (h : ta σ H fun x H1 => tb σ H1 fun y H2 => R x y H2) {Q : Value → Shared → Prop} {f : Value → Value → Sem Value}
    (hf : ∀ v u s2 x y H2, Inv X pins σ H2 s2 → RelV x v → RelV y u → R x y H2 → wpAny (model X.prog X.w) X.A (f v u) Q X.xe s2) :
    wpAny (model X.prog X.w) X.A (eval a X.env) (fun v s₁ => wpAny (model X.prog X.w) X.A (eval b X.env) (fun u s₂ => wpAny (model X.prog X.w) X.A (f v u) Q X.xe s₂) X.xe s₁) X.xe s := by
  refine thn (ha pins s σ H _ I h) fun v s1 ⟨x, H1, I1, r1, q1⟩ => ?_
  refine thn (hb pins s1 σ H1 _ I1 q1) fun u s2 ⟨y, H2, I2, r2, q2⟩ => ?_
  exact hf v u s2 x y H2 I2 r1 r2 q2

theorem pe_op {op : Operator} {r : R2} (ho : OpR X (binaryOp op) r) (ha : PE X a ta) (hb : PE X b tb) : PE X (.BinOp a op b pos) (tOp r ta tb) := by
  intro pins s σ H Q I h
  exact wpAny_BinOp (binT ha hb I h fun v u s2 x y H2 I2 rx ry q => ho pins s2 σ H2 x y v u Q I2 rx ry q)
theorem pe_un {op : UnaryOp} {r : V → Hp → VK → Prop} (ho : UnR X (unaryOp op) r) (ha : PE X a ta) : PE X (.UnaryOp op a pos) (tUn r ta) := by
  intro pins s σ H Q I h
  exact UnaryOp_ (thn (ha pins s σ H _ I h) fun v s1 ⟨x, H1, I1, r1, q1⟩ => ho pins s1 σ H1 x v Q I1 r1 q1)
theorem opI {f : Value → Value → Sem Value} {C : Int → Int → Prop} {g : Int → Int → Int}
    (rule : ∀ (i j : Int) (t u : Tok) (s : Shared) (Q : Value → Shared → Prop) (E : Value → Shared → Prop), C i j → Q (.int (g i j) s.toks) { s with toks := s.toks + 1 } → wpAny (model X.prog X.w) X.A (f (.int i t) (.int j u)) Q E s) :
    OpR X f (rI C fun i j => .int (g i j)) := by
  intro pins s σ H x y v u Q I rx ry h
  obtain ⟨i, j, rfl, rfl, hc, q⟩ := h
  obtain ⟨t, rfl⟩ := rx
  obtain ⟨t', rfl⟩ := ry
  exact rule i j t t' s _ _ hc ⟨.int (g i j), H, I.tok _, ⟨_, rfl⟩, q⟩
theorem opI0 {f : Value → Value → Sem Value} {g : Int → Int → Int}
    (rule : ∀ (i j : Int) (t u : Tok) (s : Shared) (Q : Value → Shared → Prop) (E : Value → Shared → Prop), Q (.int (g i j) s.toks) { s with toks := s.toks + 1 } → wpAny (model X.prog X.w) X.A (f (.int i t) (.int j u)) Q E s) :
    OpR X f (rI0 fun i j => .int (g i j)) := by
  intro pins s σ H x y v u Q I rx ry h
  obtain ⟨i, j, rfl, rfl, q⟩ := h
  obtain ⟨t, rfl⟩ := rx
  obtain ⟨t', rfl⟩ := ry
  exact rule i j t t' s _ _ ⟨.int (g i j), H, I.tok _, ⟨_, rfl⟩, q⟩
theorem opB0 {f : Value → Value → Sem Value} {g : Int → Int → Bool}
    (rule : ∀ (i j : Int) (t u : Tok) (s : Shared) (Q : Value → Shared → Prop) (E : Value → Shared → Prop), Q (.bool (g i j)) s → wpAny (model X.prog X.w) X.A (f (.int i t) (.int j u)) Q E s) :
    OpR X f (rI0 fun i j => .bl (g i j)) := by
  intro pins s σ H x y v u Q I rx ry h
  obtain ⟨i, j, rfl, rfl, q⟩ := h
  obtain ⟨t, rfl⟩ := rx
  obtain ⟨t', rfl⟩ := ry
  exact rule i j t t' s _ _ ⟨.bl (g i j), H, I, rfl, q⟩

def CDiv (i j : Int) : Prop := 0 < j ∧ j < 1073741824
def CMul (i j : Int) : Prop := (-(2 ^ 64) < i ∧ i < 2 ^ 64) ∨ (-(2 ^ 64) < j ∧ j < 2 ^ 64)
theorem CMul.ok {i j : Int} (h : CMul i j) : IntMulOk i j := by
  rcases h with ⟨h1, h2⟩ | ⟨h1, h2⟩
  · exact .of_left (intBits_le_64 h1 h2)
  · exact .of_right (intBits_le_64 h1 h2)
theorem op_add : OpR X (binaryOp .Add) (rI0 fun i j => .int (i + j)) := opI0 fun _ _ _ _ _ _ _ q => add_int q
theorem op_sub : OpR X (binaryOp .Sub) (rI0 fun i j => .int (i - j)) := opI0 fun _ _ _ _ _ _ _ q => sub_int q
theorem op_mul : OpR X (binaryOp .Mult) (rI CMul fun i j => .int (i * j)) := opI fun _ _ _ _ _ _ _ hc q => mul_int q hc.ok
/-- // by a positive divisor -/
theorem op_fdiv : OpR X (binaryOp .FloorDiv) (rI CDiv fun i j => .int (i / j)) := opI fun i j _ _ _ _ _ hc q => by
  have h1 : (0 : Int) < j := hc.1
  have h2 : j < 1073741824 := hc.2
  exact floordiv_int (by omega) (by rw [Int.fdiv_eq_ediv_of_nonneg i (by omega)]; exact q) (.inl (PyProof.noPylong_small (by omega)))
/-- % by a positive divisor of any size -/
theorem op_mod : OpR X (binaryOp .Mod) (rI (fun _ j => 0 < j) fun i j => .int (i % j)) := opI fun i j _ _ _ _ _ hc q => by
  have h1 : (0 : Int) < j := hc
  exact mod_int' (by omega) (by rw [Int.fmod_eq_emod_of_nonneg i (by omega)]; exact q)
theorem unI {f : Value → Sem Value} {g : Int → Int}
    (rule : ∀ (i : Int) (t : Tok) (s : Shared) (Q : Value → Shared → Prop) (E : Value → Shared → Prop), Q (.int (g i) s.toks) { s with toks := s.toks + 1 } → wpAny (model X.prog X.w) X.A (f (.int i t)) Q E s) :
    UnR X f (rU fun i => .int (g i)) := by
  intro pins s σ H x v Q I rx h
  obtain ⟨i, rfl, q⟩ := h
  obtain ⟨t, rfl⟩ := rx
  exact rule i t s _ _ ⟨.int (g i), H, I.tok _, ⟨_, rfl⟩, q⟩
theorem un_neg : UnR X (unaryOp .USub) (rU fun i => .int (-i)) := unI fun _ _ _ _ _ q => neg_int q
end

/-- the scalars that == tells apart as data does -/
def scal : V → V → Bool
  | .non, .non => true | .non, .int _ => true | .int _, .non => true | .non, .bl _ => true | .bl _, .non => true | .non, .str _ => true | .str _, .non => true
  | .int _, .int _ => true | .bl _, .bl _ => true | .str _, .str _ => true | .byt _, .byt _ => true
  | .int _, .str _ => true | .str _, .int _ => true | .bl _, .str _ => true | .str _, .bl _ => true
  | _, _ => false
def rEq : R2 := fun x y H Q => scal x y = true ∧ Q (.bl (decide (x = y))) H
def rNe : R2 := fun x y H Q => scal x y = true ∧ Q (.bl (!decide (x = y))) H

theorem dec_int {i j : Int} : decide (V.int i = V.int j) = (i == j) := by
  rw [Bool.eq_iff_iff]
  simp
theorem dec_bl {i j : Bool} : decide (V.bl i = V.bl j) = (i == j) := by
  rw [Bool.eq_iff_iff]
  simp
theorem dec_str {i j : Str} : decide (V.str i = V.str j) = (i == j) := by
  rw [Bool.eq_iff_iff]
  simp
theorem dec_byt {i j : Array UInt8} : decide (V.byt i = V.byt j) = (i.toList == j.toList) := by
  rw [Bool.eq_iff_iff]
  cases i
  cases j
  simp

section
variable {X : Cx} {a b c : Expr} {ta tb tc : TE} {pos : Pos}
theorem fin_bl {pins : List (Addr × Obj)} {σ : St} {H : Hp} {s : Shared} {Q : VK} {k k' : Bool} (I : Inv X pins σ H s) (q : Q (.bl k) H) (e : k = k') : EP X pins σ Q (.bool k') s := by
  subst e
  exact ⟨.bl k, H, I, rfl, q⟩
theorem op_eq : OpR X (compareOp .Eq) rEq := by
  intro pins s σ H x y v u Q I rx ry h
  obtain ⟨hs, q⟩ := h
  cases x with
  | non =>
    cases rx
    cases y with
    | non => cases ry; exact PySem.EqNone.eq_none_none (fin_bl I q (by simp))
    | bl j => cases ry; exact PySem.EqNone.eq_none_bool (fin_bl I q (by simp))
    | int j => obtain ⟨t', rfl⟩ := ry; exact PySem.EqNone.eq_none_int (fin_bl I q (by simp))
    | str j => obtain ⟨t', rfl⟩ := ry; exact PySem.EqNone.eq_none_str (fin_bl I q (by simp))
    | _ => exact absurd (show false = true from hs) Bool.false_ne_true
  | bl i =>
    cases rx
    cases y with
    | non => cases ry; exact PySem.EqNone.eq_bool_none (fin_bl I q (by simp))
    | bl j => cases ry; exact eq_bool (fin_bl I q dec_bl)
    | str j => obtain ⟨t', rfl⟩ := ry; exact PySem.EqMixed.eq_bool_str (fin_bl I q (by simp))
    | _ => exact absurd (show false = true from hs) Bool.false_ne_true
  | int i =>
    obtain ⟨t, rfl⟩ := rx
    cases y with
    | non => cases ry; exact PySem.EqNone.eq_int_none (fin_bl I q (by simp))
    | int j => obtain ⟨t', rfl⟩ := ry; exact eq_int (fin_bl I q dec_int)
    | str j => obtain ⟨t', rfl⟩ := ry; exact PySem.EqMixed.eq_int_str (fin_bl I q (by simp))
    | _ => exact absurd (show false = true from hs) Bool.false_ne_true
  | str i =>
    obtain ⟨t, rfl⟩ := rx
    cases y with
    | non => cases ry; exact PySem.EqNone.eq_str_none (fin_bl I q (by simp))
    | bl j => cases ry; exact PySem.EqMixed.eq_str_bool (fin_bl I q (by simp))
    | int j => obtain ⟨t', rfl⟩ := ry; exact PySem.EqMixed.eq_str_int (fin_bl I q (by simp))
    | str j => obtain ⟨t', rfl⟩ := ry; exact eq_str (fin_bl I q dec_str)
    | _ => exact absurd (show false = true from hs) Bool.false_ne_true
  | byt i =>
    obtain ⟨t, rfl⟩ := rx
    cases y with
    | byt j => obtain ⟨t', rfl⟩ := ry; exact PySem.W.eq_bytes (fin_bl I q dec_byt)
    | _ => exact absurd (show false = true from hs) Bool.false_ne_true
  | _ => cases y <;> exact absurd (show false = true from hs) Bool.false_ne_true
theorem op_ne : OpR X (compareOp .NotEq) rNe := by
  intro pins s σ H x y v u Q I rx ry h
  obtain ⟨hs, q⟩ := h
  cases x with
  | non =>
    cases rx
    cases y with
    | non => cases ry; exact PySem.EqNone.ne_none_none (fin_bl I q (by simp))
    | bl j => cases ry; exact PySem.EqNone.ne_none_bool (fin_bl I q (by simp))
    | int j => obtain ⟨t', rfl⟩ := ry; exact PySem.EqNone.ne_none_int (fin_bl I q (by simp))
    | str j => obtain ⟨t', rfl⟩ := ry; exact PySem.EqNone.ne_none_str (fin_bl I q (by simp))
    | _ => exact absurd (show false = true from hs) Bool.false_ne_true
  | bl i =>
    cases rx
    cases y with
    | non => cases ry; exact PySem.EqNone.ne_bool_none (fin_bl I q (by simp))
    | bl j => cases ry; exact ne_bool (fin_bl I q (congrArg not dec_bl))
    | str j => obtain ⟨t', rfl⟩ := ry; exact PySem.EqMixed.ne_bool_str (fin_bl I q (by simp))
    | _ => exact absurd (show false = true from hs) Bool.false_ne_true
  | int i =>
    obtain ⟨t, rfl⟩ := rx
    cases y with
    | non => cases ry; exact PySem.EqNone.ne_int_none (fin_bl I q (by simp))
    | int j => obtain ⟨t', rfl⟩ := ry; exact ne_int (fin_bl I q (congrArg not dec_int))
    | str j => obtain ⟨t', rfl⟩ := ry; exact PySem.EqMixed.ne_int_str (fin_bl I q (by simp))
    | _ => exact absurd (show false = true from hs) Bool.false_ne_true
  | str i =>
    obtain ⟨t, rfl⟩ := rx
    cases y with
    | non => cases ry; exact PySem.EqNone.ne_str_none (fin_bl I q (by simp))
    | bl j => cases ry; exact PySem.EqMixed.ne_str_bool (fin_bl I q (by simp))
    | int j => obtain ⟨t', rfl⟩ := ry; exact PySem.EqMixed.ne_str_int (fin_bl I q (by simp))
    | str j => obtain ⟨t', rfl⟩ := ry; exact ne_str (fin_bl I q (congrArg not dec_str))
    | _ => exact absurd (show false = true from hs) Bool.false_ne_true
  | byt i =>
    obtain ⟨t, rfl⟩ := rx
    cases y with
    | byt j => obtain ⟨t', rfl⟩ := ry; exact PySem.W.ne_bytes (fin_bl I q (congrArg not dec_byt))
    | _ => exact absurd (show false = true from hs) Bool.false_ne_true
  | _ => cases y <;> exact absurd (show false = true from hs) Bool.false_ne_true

theorem op_lt : OpR X (compareOp .Lt) (rI0 fun i j => .bl (decide (i < j))) := opB0 fun _ _ _ _ _ _ _ q => lt_int q
theorem op_le : OpR X (compareOp .LtE) (rI0 fun i j => .bl (decide (i ≤ j))) := opB0 fun _ _ _ _ _ _ _ q => le_int q
theorem op_gt : OpR X (compareOp .Gt) (rI0 fun i j => .bl (decide (j < i))) := opB0 fun _ _ _ _ _ _ _ q => gt_int q
theorem op_ge : OpR X (compareOp .GtE) (rI0 fun i j => .bl (decide (j ≤ i))) := opB0 fun _ _ _ _ _ _ _ q => ge_int q
/-- the one string within the other -/
theorem op_in_str : OpR X (compareOp .In) (fun x y H Q => ∃ i j, x = .str i ∧ y = .str j ∧ Q (.bl (!(Builtin.Str.occurrences j i 0 j.length 1).isEmpty)) H) := by
  intro pins s σ H x y v u Q I rx ry h
  obtain ⟨i, j, rfl, rfl, q⟩ := h
  obtain ⟨t, rfl⟩ := rx
  obtain ⟨t', rfl⟩ := ry
  exact in_str (fin_bl I q rfl)

theorem nomark (b : Expr) {op : CmpOp} (h : op ≠ .In := by decide) (h2 : op ≠ .NotIn := by decide) : behindInMarks op b = false := by
  have e1 : (op == CmpOp.In) = false := by cases op <;> first | rfl | exact absurd rfl h
  have e2 : (op == CmpOp.NotIn) = false := by cases op <;> first | rfl | exact absurd rfl h2
  cases b <;> simp [behindInMarks, e1, e2]
/-- a comparison as a value; hm: nomark b, or (for in, not in) by with_unfolding_all rfl -/
theorem pe_cmpR {op : CmpOp} {r : R2} (ho : OpR X (compareOp op) r) (ha : PE X a ta) (hb : PE X b tb) (hm : behindInMarks op b = false) : PE X (.Compare a [op] [b] pos) (tOp r ta tb) := by
  intro pins s σ H Q I h
  exact wpAny_Compare1 (binT ha hb I h fun v u s2 x y H2 I2 rx ry q => ho pins s2 σ H2 x y v u Q I2 rx ry q) hm
/-- a reading of a value as a test -/
def tTest (t : TE) : TT := fun σ H Q => t σ H fun x H' => ∃ k, x = .bl k ∧ Q k H'
theorem pt_cmpR {op : CmpOp} {r : R2} (ho : OpR X (compareOp op) r) (ha : PE X a ta) (hb : PE X b tb) (hm : behindInMarks op b = false) : PT X (.Compare a [op] [b] pos) (tTest (tOp r ta tb)) := by
  intro pins s σ H Q I h
  refine wpAny_isTrue_Compare1 (thn (ha pins s σ H _ I h) fun v s1 ⟨x, H1, I1, r1, q1⟩ => thn (hb pins s1 σ H1 _ I1 q1) fun u s2 ⟨y, H2, I2, r2, q2⟩ =>
    thn (ho pins s2 σ H2 x y v u _ I2 r1 r2 q2) fun c s3 ⟨z, H3, I3, r3, k, e, q3⟩ => ?_) hm
  subst e
  cases r3
  exact wpAny_truthy_bool ⟨H3, I3, q3⟩
/-- a op1 b op2 c -/
def tChain (r r' : R2) (ta tb tc : TE) : TE := fun σ H Q => ta σ H fun x H1 => tb σ H1 fun y H2 => r x y H2 fun z H3 => ∃ k, z = .bl k ∧
  (if k = true then tc σ H3 fun w' H4 => r' y w' H4 Q else Q (.bl false) H3)
theorem pe_chain {op op' : CmpOp} {r r' : R2} (ho : OpR X (compareOp op) r) (ho' : OpR X (compareOp op') r') (ha : PE X a ta) (hb : PE X b tb) (hc : PE X c tc)
    (hm : lastMarks [op, op'] [b, c] = false := by with_unfolding_all rfl) : PE X (.Compare a [op, op'] [b, c] pos) (tChain r r' ta tb tc) := by
  intro pins s σ H Q I h
  refine Compare_chain (thn (ha pins s σ H _ I h) fun v s1 ⟨x, H1, I1, r1, q1⟩ => chain_link (thn (hb pins s1 σ H1 _ I1 q1) fun u s2 ⟨y, H2, I2, r2, q2⟩ =>
    thn (ho pins s2 σ H2 x y v u _ I2 r1 r2 q2) fun d s3 ⟨z, H3, I3, r3, k, e, q3⟩ => ?_)) hm
  subst e
  cases r3
  refine wpAny_truthy_bool ?_
  cases k with
  | false => exact ite_ff ⟨.bl false, H3, I3, rfl, q3⟩
  | true => exact ite_tt (chain_last (thn (hc pins s3 σ H3 _ I3 q3) fun w' s4 ⟨z', H4, I4, r4, q4⟩ => ho' pins s4 σ H4 y z' u w' Q I4 r2 r4 q4))
theorem pt_chain {op op' : CmpOp} {r r' : R2} (ho : OpR X (compareOp op) r) (ho' : OpR X (compareOp op') r') (ha : PE X a ta) (hb : PE X b tb) (hc : PE X c tc)
    (hm : lastMarks [op, op'] [b, c] = false := by with_unfolding_all rfl) : PT X (.Compare a [op, op'] [b, c] pos) (tTest (tChain r r' ta tb tc)) := by
  intro pins s σ H Q I h
  refine isTrue_chain (thn (ha pins s σ H _ I h) fun v s1 ⟨x, H1, I1, r1, q1⟩ => test_link (thn (hb pins s1 σ H1 _ I1 q1) fun u s2 ⟨y, H2, I2, r2, q2⟩ =>
    thn (ho pins s2 σ H2 x y v u _ I2 r1 r2 q2) fun d s3 ⟨z, H3, I3, r3, k, e, q3⟩ => ?_)) hm
  subst e
  cases r3
  refine wpAny_truthy_bool ?_
  cases k with
  | false =>
    obtain ⟨k', e', q'⟩ := q3
    cases e'
    exact ite_ff ⟨H3, I3, q'⟩
  | true =>
    refine ite_tt (test_last (thn (hc pins s3 σ H3 _ I3 q3) fun w' s4 ⟨z', H4, I4, r4, q4⟩ => thn (ho' pins s4 σ H4 y z' u w' _ I4 r2 r4 q4) fun d' s5 ⟨z2, H5, I5, r5, k2, e2, q5⟩ => ?_))
    subst e2
    cases r5
    exact wpAny_truthy_bool ⟨H5, I5, q5⟩

/-- a value's truth by the abstract heap -/
def TruV (K : PySem.W.Frag) (x : V) (H : Hp) (k : Bool) : Prop :=
  match x with
  | .non => k = false
  | .bl b => k = b
  | .int i => k = (i != 0)
  | .str y => y.length ≤ sizeLine ∧ k = ((y.length : Int) != 0)
  | .byt y => y.size ≤ sizeLine ∧ k = ((y.size : Int) != 0)
  | .ref p => (∃ xs, SqL K H p xs ∧ k = !xs.isEmpty) ∨ (∃ xs, SqT K H p xs ∧ k = !xs.isEmpty) ∨ ∃ kvs, H p = some (.dK kvs) ∧ k = !kvs.isEmpty
  | _ => False
theorem isEmpty_kv {κ : Type} {kvs : List (κ × V)} {vs : List (κ × Value)} (r : KV kvs vs) : (!vs.isEmpty) = !kvs.isEmpty := by
  cases r <;> rfl
theorem isEmpty_of {xs : List V} {its : List Value} (r : Vals xs its) : (!its.toArray.isEmpty) = !xs.isEmpty := by
  cases r <;> simp
theorem line63 : (sizeLine : Nat) < 2 ^ 63 := by rw [sizeLine_eq]; decide
theorem tru_ok : TruR X (fun x H Q => ∃ k, TruV X.K x H k ∧ Q k H) := by
  intro pins s σ H x v Q I rx h
  obtain ⟨k, e, q⟩ := h
  have hl := line63
  have hs : sizeLine = 16777216 := sizeLine_eq
  cases x with
  | non =>
    cases rx
    have e' : k = false := e
    subst e'
    exact truthy_none ⟨H, I, q⟩
  | bl b =>
    cases rx
    have e' : k = b := e
    subst e'
    exact wpAny_truthy_bool ⟨H, I, q⟩
  | int i =>
    obtain ⟨t, rfl⟩ := rx
    have e' : k = (i != 0) := e
    subst e'
    exact PySem.P.truthy_int ⟨H, I, q⟩
  | str y =>
    obtain ⟨t, rfl⟩ := rx
    obtain ⟨hy, e'⟩ : y.length ≤ sizeLine ∧ k = ((y.length : Int) != 0) := e
    subst e'
    exact PySem.P.truthy_str (by omega) ⟨H, I.tok _, q⟩
  | byt y =>
    obtain ⟨t, rfl⟩ := rx
    obtain ⟨hy, e'⟩ : y.size ≤ sizeLine ∧ k = ((y.size : Int) != 0) := e
    subst e'
    exact PySem.W.truthy_bytes (by omega) ⟨H, I.tok _, q⟩
  | ref p =>
    cases rx
    have e' : (∃ xs, SqL X.K H p xs ∧ k = !xs.isEmpty) ∨ (∃ xs, SqT X.K H p xs ∧ k = !xs.isEmpty) ∨ ∃ kvs, H p = some (.dK kvs) ∧ k = !kvs.isEmpty := e
    rcases e' with ⟨xs, hx, e'⟩ | ⟨xs, hx, e'⟩ | ⟨kvs, hx, e'⟩
    · subst e'
      obtain ⟨its, r, pl, hz⟩ := I.list hx
      have hlen := r.length
      exact wpAny_truthy_list pl.isList (by simp only [List.size_toArray]; omega) ⟨H, I.tok _, by rw [isEmpty_of r]; exact q⟩
    · subst e'
      obtain ⟨its, r, pl, hz⟩ := I.tuple hx
      have hlen := r.length
      exact truthy_tuple pl (by simp only [List.size_toArray]; omega) ⟨H, I.tok _, by rw [isEmpty_of r]; exact q⟩
    · subst e'
      obtain ⟨hz, hS, vs, r, m⟩ : kvs.length ≤ sizeLine ∧ (p == sysModules) = false ∧ ∃ vs, KV kvs vs ∧ s.heap.DictOf (mixKind X.prog X.w) p vs := I.hok p _ hx
      have hlen : kvs.length = vs.length := Paired.length r
      exact wpAny_truthy_dict hS m (by omega) ⟨H, I.tok _, by rw [isEmpty_kv r]; exact q⟩
  | _ => exact (show False from e).elim
/-- any expression whose test is its value's truth (a name, a call, a subscript, a field ..: he by fun _ => rfl) -/
theorem pt_truth (ha : PE X a ta) (he : ∀ whole, isTrue a X.env whole = (do let v ← whole; standAt a.pos; holding [v] (truthy v))) :
    PT X a (fun σ H Q => ta σ H fun x H' => ∃ k, TruV X.K x H' k ∧ Q k H') := by
  intro pins s σ H Q I h
  exact isTrue_plain (thn (ha pins s σ H _ I h) fun v s1 ⟨x, H1, I1, r1, q1⟩ => tru_ok pins s1 σ H1 x v Q I1 r1 q1) (he _)

theorem op_add_str : OpR X (binaryOp .Add) (fun x y H Q => ∃ i j, x = .str i ∧ y = .str j ∧ i.length + j.length ≤ sizeLine ∧ Q (.str (i ++ j)) H) := by
  intro pins s σ H x y v u Q I rx ry h
  obtain ⟨i, j, rfl, rfl, hz, q⟩ := h
  obtain ⟨t, rfl⟩ := rx
  obtain ⟨t', rfl⟩ := ry
  exact add_str (fun t' tk => ⟨.str (i ++ j), H, I.tok _, ⟨_, rfl⟩, q⟩) hz
theorem vals1 {x : V} {us : List Value} (r : Vals [x] us) : ∃ u, us = [u] ∧ RelV x u := by
  cases r with
  | cons r1 r2 => cases r2; exact ⟨_, rfl, r1⟩
theorem vals2 {x y : V} {us : List Value} (r : Vals [x, y] us) : ∃ u w', us = [u, w'] ∧ RelV x u ∧ RelV y w' := by
  cases r with
  | cons r1 r2 =>
    cases r2 with
    | cons r3 r4 => cases r4; exact ⟨_, _, rfl, r1, r3⟩
theorem call_int1 : CallR X (.type "int") (fun xs H Q => (∃ i, xs = [.int i] ∧ Q (.int i) H) ∨ ∃ k, xs = [.bl k] ∧ Q (.int (if k then 1 else 0)) H) := by
  intro pins s σ H xs us Q I r h
  rcases h with ⟨i, rfl, q⟩ | ⟨k, rfl, q⟩
  · obtain ⟨u, rfl, t, rfl⟩ := vals1 r
    exact call_int_int ⟨.int i, H, I, ⟨_, rfl⟩, q⟩
  · obtain ⟨u, rfl, r1⟩ := vals1 r
    cases r1
    exact call_int_bool ⟨.int (if k then 1 else 0), H, I.tok _, ⟨_, rfl⟩, q⟩
/-- len of a str, a bytes, a list, a tuple -/
def LenV (K : PySem.W.Frag) (x : V) (H : Hp) (n : Nat) : Prop :=
  match x with
  | .str y => y.length ≤ sizeLine ∧ n = y.length
  | .byt y => y.size ≤ sizeLine ∧ n = y.size
  | .ref p => (∃ xs, SqL K H p xs ∧ n = xs.length) ∨ ∃ xs, SqT K H p xs ∧ n = xs.length
  | _ => False
theorem call_len : CallR X (.builtin "len") (fun xs H Q => ∃ x n, xs = [x] ∧ LenV X.K x H n ∧ Q (.int n) H) := by
  intro pins s σ H xs us Q I r h
  obtain ⟨x, n, rfl, e, q⟩ := h
  obtain ⟨u, rfl, rx⟩ := vals1 r
  have hl := line63
  have hs : sizeLine = 16777216 := sizeLine_eq
  cases x with
  | str y =>
    obtain ⟨t, rfl⟩ := rx
    obtain ⟨hy, e'⟩ : y.length ≤ sizeLine ∧ n = y.length := e
    subst e'
    exact len_str (by omega) ⟨.int _, H, I.tok _, ⟨_, rfl⟩, q⟩
  | byt y =>
    obtain ⟨t, rfl⟩ := rx
    obtain ⟨hy, e'⟩ : y.size ≤ sizeLine ∧ n = y.size := e
    subst e'
    exact PySem.W.len_bytes (by omega) ⟨.int _, H, I.tok _, ⟨_, rfl⟩, q⟩
  | ref p =>
    cases rx
    have e' : (∃ xs, SqL X.K H p xs ∧ n = xs.length) ∨ ∃ xs, SqT X.K H p xs ∧ n = xs.length := e
    rcases e' with ⟨xs, hx, e'⟩ | ⟨xs, hx, e'⟩
    · subst e'
      obtain ⟨its, r', pl, hz⟩ := I.list hx
      have hlen := r'.length
      exact Calls.call_len_list pl.isList (by simp only [List.size_toArray]; omega) ⟨.int xs.length, H, I.tok _, ⟨_, by simp only [List.size_toArray]; rw [hlen]⟩, q⟩
    · subst e'
      obtain ⟨its, r', pl, hz⟩ := I.tuple hx
      have hlen := r'.length
      exact len_tuple pl (by simp only [List.size_toArray]; omega) ⟨.int xs.length, H, I.tok _, ⟨_, by simp only [List.size_toArray]; rw [hlen]⟩, q⟩
  | _ => exact (show False from e).elim
end
end L2

namespace L2
open PySem PySem.Spec PyProof.Rows

structure ObjM (h : Heap) (x dx C : Addr) (mA : Str → Option Value) : Prop where
  obj : h.get? x = some (PySem.W.instObj C dx)
  ns : h.Ns1 dx mA
  ne : dx ≠ x

theorem lookIn_ns {h : Heap} {dx : Addr} {mA : Str → Option Value} (n : h.Ns1 dx mA) : ∃ od, h.get? dx = some od ∧ ∀ name, PySem.W.lookIn name od = some (mA name) := by
  obtain ⟨o, es, ep, ho, hd, hk, _, hm⟩ := n
  refine ⟨o, ho, fun name => ?_⟩
  have e := hm name
  unfold nsFind findBy at e
  rw [← Array.find?_toList] at e
  unfold PySem.W.lookIn
  rw [hd]
  dsimp only
  split
  · rename_i y q
    rw [q] at e
    exact congrArg some e
  · rename_i q
    rw [q] at e
    have a : es.toList.any (·.refKey) = false := by
      rw [List.any_eq_false]
      intro y hy
      obtain ⟨z, t, hkey⟩ := hk y (Array.mem_toList_iff.mp hy)
      simp [DictEntry.refKey, hkey]
    have a' : ¬ es.toList.any (·.refKey) = true := by rw [a]; exact Bool.false_ne_true
    rw [if_neg a']
    exact congrArg some e

theorem ObjM.look {h : Heap} {x dx C : Addr} {mA : Str → Option Value} (I : ObjM h x dx C mA) : ∃ od, PySem.W.InstAt h x (PySem.W.instObj C dx) C (some od) ∧ ∀ name, PySem.W.lookIn name od = some (mA name) :=
  let ⟨od, ho, hl⟩ := lookIn_ns I.ns
  ⟨od, ⟨I.obj, rfl, rfl, ho⟩, hl⟩

section
variable {prog : Program} {w : World} {A : Around} {E : Value → Shared → Prop} {s : Shared} {K : PySem.W.Frag} {x dx C f : Addr} {mA : Str → Option Value} {name : Str} {v : Value}

end

section
variable {P : Program} {w : World} {H H' : Hp} {h h' : Heap} {a C dx : Addr} {fs fs' : List (Str × V)}
theorem ins_get (hok : HOk P w H h) (e : H a = some (.ins C dx fs)) : ∃ mA, ObjM h a dx C mA ∧ (∀ f, RelO (fs.lookup f) (mA f)) ∧ PySem.Within mA (fs.map (·.1)) ∧ fs.length ≤ 1000 ∧ H dx = some (.own a) := by
  obtain ⟨d, z, ne, ob, mA, n, r, q⟩ := (show ObjOk P w H h a (.ins C dx fs) from hok a _ e)
  exact ⟨mA, ⟨ob, n, ne⟩, r, q, z, d⟩
end

structure Cls (K : PySem.W.Frag) (C : Addr) : Prop where
  pg : PySem.W.plainGet K C Str.empty = true
  hd : PySem.W.hasDictIn K C = true
  po : PySem.W.plainOver K C = true
  sa : PySem.W.findIn K (.ref C) "__setattr__" = some (some (.builtin "object.__setattr__"))
theorem Cls.get {K : PySem.W.Frag} {C : Addr} (c : Cls K C) (f : Str) : PySem.W.plainGet K C f = true := c.pg
/-- a constant of the class -/
structure Con (K : PySem.W.Frag) (C : Addr) (f : Str) (v : V) (u : Value) : Prop where
  at_ : PySem.W.findIn K (.ref C) f = some (some u)
  rel : RelV v u
  get : PySem.W.specialIn K u "__get__" = some none
  cp : PySem.W.copiedNames.contains f = false
/-- a method: a plain def of the class or of one above it -/
structure Meth (K : PySem.W.Frag) (C : Addr) (m : Str) (f : Addr) : Prop where
  at_ : PySem.W.findIn K (.ref C) m = some (some (.ref f))
  fn : PySem.W.isFn K (.ref f) = true
  kp : PySem.W.keepIn K (.ref f) = true

section
variable {X : Cx} {pins : List (Addr × Obj)} {σ : St} {H : Hp} {s : Shared} {a C dx : Addr} {fs : List (Str × V)} {f : Str} {v : V} {A : Around} {E : Value → Shared → Prop}

end

section
variable {X : Cx} {o e value : Expr} {f : Str} {pos pos' tpos : Pos} {ta tv : TE}
end

section
variable {X : Cx} {pins : List (Addr × Obj)} {σ : St} {H : Hp} {s : Shared} {A : Around} {E : Value → Shared → Prop} {Q : Value → Shared → Prop} {c : Value} {b : Bool}
/-- the type of a value, as the fragment's deciders take it; for an instance its class -/
inductive TyOf (K : PySem.W.Frag) (H : Hp) : V → Value → Prop where
  | non : TyOf K H .non (.type "NoneType")
  | bl (x : Bool) : TyOf K H (.bl x) (.type "bool")
  | int (i : Int) : TyOf K H (.int i) (.type "int")
  | str (x : Str) : TyOf K H (.str x) (.type "str")
  | flt (x : UInt64) : TyOf K H (.flt x) (.type "float")
  | lst {a : Addr} {xs : List V} (e : H a = some (.lst xs)) : TyOf K H (.ref a) (.type "list")
  | frz {a : Addr} {o : Obj} {xs : List V} (e : H a = some (.frz o (.lst xs))) : TyOf K H (.ref a) (.type "list")
  | tup {a : Addr} {xs : List V} (e : H a = some (.tup xs)) : TyOf K H (.ref a) (.type "tuple")
  | dK {a : Addr} {kvs : List (Key × V)} (e : H a = some (.dK kvs)) : TyOf K H (.ref a) (.type "dict")
  | dT {a : Addr} {kvs : List (List Key × V)} (e : H a = some (.dT kvs)) : TyOf K H (.ref a) (.type "dict")
  | ins {a C dx : Addr} {fs : List (Str × V)} (e : H a = some (.ins C dx fs)) (cl : Cls K C) (ha : PySem.W.findIn K (.ref C) "__class__" = some (some (.builtin "object.__class__")))
      (hn : PySem.W.specialIn K (.builtin "object.__class__") "__get__" = some (some (.builtin "getset_descriptor.__get__"))) (htk : PySem.W.takesIn K (.builtin "object.__class__") = some true)
      (hm : PySem.W.mroIn K C (.type "object") = some true) : TyOf K H (.ref a) (.ref C)
/-- isinstance(x, c) for one class c, a built-in or an own one: kitOne's answer -/
theorem isinst_ok {x : V} {u t : Value} (I : Inv X pins σ H s) (rx : RelV x u) (ty : TyOf X.K H x t) (e : PySem.W.kitOne X.K t c = some b) (h : ∀ tk, Q (.bool b) { s with toks := tk }) :
    wpAny (model X.prog X.w) A (call (.builtin "isinstance") [u, c]) Q E s := by
  cases ty with
  | non => cases (show u = Value.none from rx); exact PySem.W.kia_one PySem.W.kitx_none I.kIn True.intro e (fun z => nomatch z) h
  | bl y => cases (show u = Value.bool y from rx); exact PySem.W.kia_one PySem.W.kitx_bool I.kIn True.intro e (fun z => nomatch z) h
  | int i => obtain ⟨t, q⟩ := (show ∃ t, u = Value.int i t from rx); cases q; exact PySem.W.kia_one PySem.W.kitx_int I.kIn True.intro e (fun z => nomatch z) h
  | str y => obtain ⟨t, q⟩ := (show ∃ t, u = Value.str y t from rx); cases q; exact PySem.W.kia_one PySem.W.kitx_str I.kIn True.intro e (fun z => nomatch z) h
  | flt y => obtain ⟨t, q⟩ := (show ∃ t, u = Value.float y t from rx); cases q; exact PySem.W.kia_one PySem.W.kitx_float I.kIn True.intro e (fun z => nomatch z) h
  | @lst a xs ea =>
    cases (show u = Value.ref a from rx)
    obtain ⟨_, _, n, _, h1⟩ := (show ObjOk X.prog X.w H s.heap a (.lst xs) from I.hok a _ ea)
    exact PySem.W.kia_one PySem.W.kitx_list I.kIn ⟨_, h1, rfl⟩ e (fun z => nomatch z) h
  | @frz a ob xs ea =>
    cases (show u = Value.ref a from rx)
    obtain ⟨_, _, _, n, _, h1⟩ := (show ObjOk X.prog X.w H s.heap a (.frz ob (.lst xs)) from I.hok a _ ea)
    exact PySem.W.kia_one PySem.W.kitx_list I.kIn ⟨_, h1, rfl⟩ e (fun z => nomatch z) h
  | @tup a xs ea =>
    cases (show u = Value.ref a from rx)
    obtain ⟨_, _, _, p⟩ := (show ObjOk X.prog X.w H s.heap a (.tup xs) from I.hok a _ ea)
    obtain ⟨o, h1, h2, _⟩ := p
    exact PySem.W.kia_one PySem.W.kitx_tuple I.kIn ⟨o, h1, h2⟩ e (fun z => nomatch z) h
  | @dK a kvs ea =>
    cases (show u = Value.ref a from rx)
    obtain ⟨_, _, vs, _, p⟩ := (show ObjOk X.prog X.w H s.heap a (.dK kvs) from I.hok a _ ea)
    obtain ⟨o, es, ep, h1, h2, _⟩ := p
    exact PySem.W.kia_one PySem.W.kitx_dict I.kIn ⟨o, h1, h2.1⟩ e (fun z => nomatch z) h
  | @dT a kvs ea =>
    cases (show u = Value.ref a from rx)
    obtain ⟨_, _, xs, _, o, es, ep, h1, h2, _⟩ := (show ObjOk X.prog X.w H s.heap a (.dT kvs) from I.hok a _ ea)
    exact PySem.W.kia_one PySem.W.kitx_dict I.kIn ⟨o, h1, h2.1⟩ e (fun z => nomatch z) h
  | @ins a C dx fs ea cl ha hn htk hm =>
    cases (show u = Value.ref a from rx)
    obtain ⟨mA, O, _⟩ := ins_get I.hok ea
    obtain ⟨od, J, _⟩ := O.look
    exact PySem.W.kia_one (PySem.W.kitx_own (cl.get _) cl.hd ha hn htk hm) I.kIn J e (fun z => nomatch z) h
end
end L2

namespace L2
open PySem PySem.Spec PyProof.Rows

structure Room (k : Nat) (A : Around) : Prop where
  hd : A.handled = none
  dp : A.depth + 3 * k + 5 < recursionLimit
  un : A.units + 16 * k + 200 < cLine
theorem Room.mono {j k : Nat} {A : Around} (r : Room k A) (h : j ≤ k) : Room j A := ⟨r.hd, by have := r.dp; omega, by have := r.un; omega⟩
theorem Room.deeper {k : Nat} {A : Around} (r : Room (k + 1) A) (env : Env) : Room k (A.deeper env) :=
  ⟨r.hd, by have := r.dp; show A.depth + 1 + 3 * k + 5 < _; omega, by have := r.un; show A.units + 3 + 16 * k + 200 < _; omega⟩
theorem Room.depth {k : Nat} {A : Around} (r : Room k A) : A.depth < recursionLimit := by have := r.dp; omega
theorem Room.units {k : Nat} {A : Around} (r : Room k A) : A.units + 64 < cLine := by have := r.un; omega
def tNil : TA := fun _ H Q => Q [] H
def tCons (ta : TE) (tr : TA) : TA := fun σ H Q => ta σ H fun x H1 => tr σ H1 fun xs H2 => Q (x :: xs) H2
section
variable {X : Cx} {e : Expr} {es : List Expr} {te : TE} {t : TA} {pos : Pos}
theorem pa_nil : PA X [] tNil := fun _ _ _ _ H Q I h => Calls.spliced_nil ⟨[], H, I, .nil, h⟩
theorem pa_cons (ha : PE X e te) (hr : PA X es t) (hs : starEach (e :: es) X.env = (false, eval e X.env) :: starEach es X.env := by rfl) : PA X (e :: es) (tCons te t) := by
  intro pos pins s σ H Q I h
  rw [hs]
  show wpAny _ _ (spliced ((false, eval e X.env) :: backTo pos (starEach es X.env))) _ _ s
  refine Calls.spliced_cons (thn (ha pins s σ H _ I h) fun u s1 ⟨x, H1, I1, r1, q1⟩ => ?_)
  exact thn (hr pos pins s1 σ H1 _ I1 q1) fun us s2 ⟨xs, H2, I2, r2, q2⟩ => ⟨x :: xs, H2, I2, .cons r1 r2, q2⟩

/-- a tuple, a list of written items -/
def tTup (t : TA) : TE := fun σ H Q => t σ H fun xs H1 => xs.length ≤ sizeLine ∧ ∀ p, H1 p = none → Q (.ref p) (upd H1 p (.tup xs))
def tLst (t : TA) : TE := fun σ H Q => t σ H fun xs H1 => xs.length ≤ sizeLine ∧ ∀ p, H1 p = none → Q (.ref p) (upd H1 p (.lst xs))
theorem pe_tup {x1} (h : PA X es t) : PE X (.Tuple es x1 pos) (tTup t) := by
  intro pins s σ H Q I hq
  refine wpAny_Tuple_spliced (thn (h pos pins s σ H _ I hq) fun us s1 ⟨xs, H1, I1, r, z, q⟩ => ⟨by rw [← r.length]; exact z, ?_⟩)
  have hf : H1 s1.heap.objs.size = none := I1.hok.fresh (Nat.le_refl _)
  refine ⟨.ref s1.heap.objs.size, upd H1 s1.heap.objs.size (.tup xs), I1.laid (t' := s1.toks) (fun b u e => Heap.get?_push_of_some _ e) (Nat.le_refl _) ?_, rfl, q _ hf⟩
  exact ⟨z, us, r, ⟨_, Heap.get?_push_size _ rfl, rfl, _, rfl⟩⟩
theorem pe_lst (h : PA X es t) : PE X (.List es pos) (tLst t) := by
  intro pins s σ H Q I hq
  refine wpAny_List_spliced (thn (h pos pins s σ H _ I hq) fun us s1 ⟨xs, H1, I1, r, z, q⟩ => ⟨by rw [← r.length]; exact z, ?_⟩)
  have hf : H1 s1.heap.objs.size = none := I1.hok.fresh (Nat.le_refl _)
  refine ⟨.ref s1.heap.objs.size, upd H1 s1.heap.objs.size (.lst xs), I1.laid (t' := s1.toks) (fun b u e => Heap.get?_push_of_some _ e) (Nat.le_refl _) ?_, rfl, q _ hf⟩
  exact ⟨z, us, 0, r, Heap.get?_push_size _ rfl⟩
end

/-- a def's promise: the bound arguments in the parameters' order, the heap, the wanted end, the wanted exception -/
abbrev Sp := List V → Hp → VK → XK → Prop
/-- how an exception lies behind a call (file 08 gives it): the callers' frames, abstract heap and state ahead of the call, the wish, the exception, the state -/
abbrev CXT := List Env → Hp → Shared → XK → Value → Shared → Prop

/-- the state at a call -/
structure Env0 (P : Program) (w : World) (K : PySem.W.Frag) (mg : Str → Option Value) (base : Heap) (A : Around) (outer : List Env) (s : Shared) (H : Hp) : Prop where
  frames : A.frames = some outer
  mod : Mod K mg base
  bs : ∀ b o, base.get? b = some o → s.heap.get? b = some o ∧ H b = none
  bsz : base.objs.size ≤ s.heap.objs.size
  funs : s.heap.FunFrames base outer
  frf : ∀ b ∈ frs outer, H b = none
  hok : HOk P w H s.heap
  bare : AllBare s.gens
/-- a call's end -/
def CE (outer : List Env) (P : Program) (w : World) (H : Hp) (s : Shared) (Q : VK) (u : Value) (s' : Shared) : Prop :=
  ∃ v H', s'.os = s.os ∧ AllBare s'.gens ∧ Un (frs outer) [] H H' s.heap s'.heap ∧ HOk P w H' s'.heap ∧ RelV v u ∧ Q v H'
def CR (CX : CXT) (outer : List Env) (P : Program) (w : World) (H : Hp) (s : Shared) (Q : VK) (E : XK) (r : Result) (s' : Shared) : Prop :=
  match r with
  | .ok (.ret u) => CE outer P w H s Q u s'
  | .ok _ => False
  | .error e => CX outer H s E e s'
structure FnOk (P : Program) (w : World) (K : PySem.W.Frag) (mg : Str → Option Value) (base : Heap) (CX : CXT) (k : Nat) (f : Addr) (fd : FuncData) (ps : List Str) (sp : Sp) : Prop where
  len : ∀ vs H Q E, sp vs H Q E → vs.length = ps.length
  run : ∀ (A : Around) (outer : List Env) (s : Shared) (H : Hp) (args : Args) (us : List Value) (vs : List V) (Q : VK) (E : XK), Room k A → Env0 P w K mg base A outer s H → BindsTo s fd args (ps.zip us) → Vals vs us → sp vs H Q E →
    codeAny (model P w) A (.call (.ref f) args) (CR CX outer P w H s Q E) s
section
variable {X : Cx} {pins : List (Addr × Obj)} {σ : St} {H : Hp} {s s' : Shared}
/-- from a body: what a callee wants -/
theorem Inv.env0 (I : Inv X pins σ H s) : Env0 X.prog X.w X.K X.mg X.base X.A X.stack s H :=
  ⟨I.ok.frames, I.ok.mod, I.bs, Nat.le_trans I.ok.bsz I.sz, I.stack, I.stkFree, I.hok, I.bare⟩
/-- behind a call -/
theorem Inv.after {Q : VK} {u : Value} (I : Inv X pins σ H s) (h : CE X.stack X.prog X.w H s Q u s') : EP X pins σ Q u s' := by
  obtain ⟨v, H', os, bare, un, hok, r, q⟩ := h
  obtain ⟨hh, g, d, t, os'⟩ := s'
  obtain rfl : os' = s.os := os
  exact ⟨v, H', I.call (h' := hh) (g' := g) (d' := d) (t' := t) (ch := []) un hok bare (fun b z => absurd z (by simp)), r, q⟩
end

/-- f(..): the written arguments, then the defaults dvs; E: what is wanted of an exception -/
def tCall (sp : Sp) (dvs : List V) (E : XK) (t : TA) : TE := fun σ H Q => t σ H fun vs H1 => sp (vs ++ dvs) H1 Q E
/-- how the parameters are bound: us the positional arguments, kw the keywords' values by name, ds the defaults that fill up -/
def Binds (K : PySem.W.Frag) (fd : FuncData) (ps : List Str) (ds : List Value) : Prop :=
  ∀ (s : Shared) (us : List Value), K.In s.heap → (us ++ ds).length = ps.length → BindsTo s fd ⟨us, []⟩ (ps.zip (us ++ ds))
/-- every parameter is given -/
theorem Binds.all {K : PySem.W.Frag} {fd : FuncData} {ps : List Str} (h : ∀ us : List Value, us.length = ps.length → bindArgs fd ⟨us, []⟩ = pure (ps.zip us)) : Binds K fd ps [] := fun s us _ hl => by
  rw [List.append_nil] at hl ⊢
  exact .of_eq (h us hl)

/-- an exception of a callee reaches what this body wants of exceptions -/
def Passes (CX : CXT) (X : Cx) (E : XK) : Prop := ∀ (pins : List (Addr × Obj)) (σ : St) (H : Hp) (s : Shared) (e : Value) (s' : Shared), Inv X pins σ H s → CX X.stack H s E e s' → X.xe e s'

section
variable {X : Cx} {CX : CXT} {k : Nat} {f C : Addr} {fd : FuncData} {ps : List Str} {sp : Sp} {dvs : List V} {ds : List Value} {E : XK} {x m : Str} {p pos apos : Pos} {e o : Expr} {es : List Expr} {ta : TE} {t : TA}

/-- the callee runs -/
theorem run_fn {pins : List (Addr × Obj)} {σ : St} {H : Hp} {s : Shared} {Q : VK} {us : List Value} {vs : List V} (F : FnOk X.prog X.w X.K X.mg X.base CX k f fd ps sp) (hr : Room k X.A) (hb : Binds X.K fd ps ds) (hd : Vals dvs ds) (hx : Passes CX X E)
    (I : Inv X pins σ H s) (r : Vals vs us) (h : sp (vs ++ dvs) H Q E) : wpAny (model X.prog X.w) X.A (call (.ref f) us) (EP X pins σ Q) X.xe s := by
  have r2 : Vals (vs ++ dvs) (us ++ ds) := r.append hd
  have hl : (us ++ ds).length = ps.length := by rw [← r2.length]; exact F.len _ _ _ _ h
  refine wpAny_call (codeAny_mono (F.run X.A X.stack s H ⟨us, []⟩ (us ++ ds) (vs ++ dvs) Q E hr I.env0 (hb s us I.kIn hl) r2 h) fun r s' hq => ?_)
  cases r with
  | error e => exact hx pins σ H s e s' I hq
  | ok fl =>
    cases fl with
    | ret u => exact I.after hq
    | next => exact False.elim hq
    | brk => exact False.elim hq
    | cont => exact False.elim hq

theorem pe_call (F : FnOk X.prog X.w X.K X.mg X.base CX k f fd ps sp) (hr : Room k X.A) (hg : Gl X x) (hm : X.mg x = some (.ref f)) (hk : PySem.W.keepIn X.K (.ref f) = true) (hb : Binds X.K fd ps ds) (hd : Vals dvs ds) (hx : Passes CX X E)
    (ha : PA X (e :: es) t) (hdb : (x == ("__debug__" : Str)) = false := by decide) (he : starEach (e :: es) X.env = (false, eval e X.env) :: starEach es X.env := by rfl) (hpl : (backTo pos (starEach es X.env)).any (·.1) = false := by rfl) :
    PE X (.Call (.Name x p) (e :: es) [] pos) (tCall sp dvs E t) := by
  intro pins s σ H Q I h
  refine wpAny_Call_Name_kw (ld_glob I hg hm ?_ hdb)
  refine PySem.W.callWith_K (h₀ := X.base) I.ok.mod.kin hk (thn (ha pos pins s σ H _ I h) fun us s1 ⟨vs, H1, I1, r, q⟩ => ⟨I1.kIn, ?_⟩) he hpl
  exact run_fn F hr hb hd hx I1 r q
/-- what a class must have to be made -/
structure Mk (K : PySem.W.Frag) (C f : Addr) : Prop where
  makes : PySem.W.makesIn K C = true
  init : PySem.W.findIn K (.ref C) "__init__" = some (some (.ref f))
  fn : PySem.W.isFn K (.ref f) = true
  kp : PySem.W.keepIn K (.ref C) = true

end

section
variable {X : Cx} {CX : CXT} {k : Nat} {f C : Addr} {fd : FuncData} {ps ks : List Str} {sp : Sp} {E : XK} {x m : Str} {p pos apos kpos : Pos} {e o : Expr} {es : List Expr} {kws : List Keyword} {te ta : TE} {t tk : TA} {nm : Option Str}
/-- how a call with keywords binds: g puts the positional values us and the keywords' values ws (names ks) in the parameters' order, defaults among them -/
structure KBinds (K : PySem.W.Frag) (fd : FuncData) (ps ks : List Str) (g : List Value → List Value → List Value) (gV : List V → List V → List V) : Prop where
  to : ∀ (s : Shared) (us ws : List Value), K.In s.heap → (g us ws).length = ps.length → BindsTo s fd ⟨us, ks.zip ws⟩ (ps.zip (g us ws))
  rel : ∀ {vs : List V} {us : List Value} {zs : List V} {ws : List Value}, Vals vs us → Vals zs ws → Vals (gV vs zs) (g us ws)
variable {g : List Value → List Value → List Value} {gV : List V → List V → List V}
end

/-- names: the parameters first -/
structure FnScope (N P : List Str) (sc : Scope) : Prop where
  kind : sc.kind = .function
  co : sc.isCoroutine = false
  gen : sc.isGenerator = false
  nd : N.Nodup
  pre : N.take P.length = P
  par : ∀ x ∈ P, sc.names.lookup x = some .local ∨ sc.names.lookup x = some .cell
  nofree : ∀ y ∈ sc.names, y.2 ≠ .free

theorem bindL_out {kindOf : Str → Option NameKind} {x : Str} : ∀ {binds : List (Str × Value)} {m : Str → Option Value}, (∀ v, (x, v) ∉ binds) → bindL kindOf binds m x = m x
  | [], _, _ => rfl
  | (n, v) :: r, m, h => by
    unfold bindL
    rw [bindL_out fun w hw => h w (List.mem_cons_of_mem _ hw)]
    split
    · have : x ≠ n := by rintro rfl; exact h v List.mem_cons_self
      simp [this]
    · rfl
theorem bindC_out {kindOf : Str → Option NameKind} {x : Str} : ∀ {binds : List (Str × Value)} {m : Str → Option Value}, (∀ v, (x, v) ∉ binds) → bindC kindOf binds m x = m x
  | [], _, _ => rfl
  | (n, v) :: r, m, h => by
    unfold bindC
    rw [bindC_out fun w hw => h w (List.mem_cons_of_mem _ hw)]
    split
    · rfl
    · have : x ≠ n := by rintro rfl; exact h v List.mem_cons_self
      simp [this]
theorem bindL_get {kindOf : Str → Option NameKind} {x : Str} {v : Value} : ∀ {P : List Str} {vs : List Value} {i : Nat} {m : Str → Option Value}, P.Nodup → P[i]? = some x → vs[i]? = some v → kindOf x = some .local →
    bindL kindOf (P.zip vs) m x = some v
  | [], _, _, _, _, h, _, _ => by simp at h
  | _ :: _, [], _, _, _, _, h, _ => by simp at h
  | p :: P, w :: vs, 0, m, nd, h1, h2, hk => by
    simp at h1 h2; subst h1; subst h2
    show bindL kindOf ((p, w) :: P.zip vs) m p = _
    unfold bindL
    rw [bindL_out fun v hv => (List.nodup_cons.mp nd).1 (List.of_mem_zip hv).1, if_pos hk]
    simp
  | p :: P, w :: vs, i + 1, m, nd, h1, h2, hk => by
    show bindL kindOf ((p, w) :: P.zip vs) m x = _
    unfold bindL
    exact bindL_get (i := i) (List.nodup_cons.mp nd).2 (by simpa using h1) (by simpa using h2) hk
theorem bindC_get {kindOf : Str → Option NameKind} {x : Str} {v : Value} : ∀ {P : List Str} {vs : List Value} {i : Nat} {m : Str → Option Value}, P.Nodup → P[i]? = some x → vs[i]? = some v → kindOf x ≠ some .local →
    bindC kindOf (P.zip vs) m x = some v
  | [], _, _, _, _, h, _, _ => by simp at h
  | _ :: _, [], _, _, _, _, h, _ => by simp at h
  | p :: P, w :: vs, 0, m, nd, h1, h2, hk => by
    simp at h1 h2; subst h1; subst h2
    show bindC kindOf ((p, w) :: P.zip vs) m p = _
    unfold bindC
    rw [bindC_out fun v hv => (List.nodup_cons.mp nd).1 (List.of_mem_zip hv).1, if_neg hk]
    simp
  | p :: P, w :: vs, i + 1, m, nd, h1, h2, hk => by
    show bindC kindOf ((p, w) :: P.zip vs) m x = _
    unfold bindC
    exact bindC_get (i := i) (List.nodup_cons.mp nd).2 (by simpa using h1) (by simpa using h2) hk

/-- the names' values at the entry -/
def start (N : List Str) (vs : List V) : St := vs.map some ++ List.replicate (N.length - vs.length) none

/-- the context of a def's body, at its entry; an exception leaves the frame, then lies as CX says -/
def cxOf (CX : CXT) (P : Program) (w : World) (K : PySem.W.Frag) (mg : Str → Option Value) (base : Heap) (N : List Str) (qual : Str) (scope : Scope) (f : Addr) (cd : Value) (A : Around) (outer : List Env) (s : Shared) (H : Hp) (E : XK) : Cx where
  prog := P
  w := w
  K := K
  mg := mg
  base := base
  A := A.deeper (envOfC qual scope s.heap.objs.size f cd)
  N := N
  s₀ := s
  H₀ := H
  env := envOfC qual scope s.heap.objs.size f cd
  outer := outer
  stack := envOfC qual scope s.heap.objs.size f cd :: outer
  ex := []
  calm := true
  fn := fun _ => true
  pn := []
  xe := fun e s' => wpAny (model P w) (A.deeper (envOfC qual scope s.heap.objs.size f cd)) (leaving (envOfC qual scope s.heap.objs.size f cd) e) (fun _ s'' => CX outer H s E e s'') (fun e' s'' => CX outer H s E e' s'') s'

theorem cell_has {sc : Scope} {n : Nat} {x : Str} (h : sc.names.lookup x = some .cell) : ∃ c, (cellsFrom n sc.names []).lookup x = some c := by
  have q := PySem.W.cellsFrom_some sc.names n [] (.inl h)
  exact Option.isSome_iff_exists.mp q

theorem inv_start {CX : CXT} {P : Program} {w : World} {K : PySem.W.Frag} {mg : Str → Option Value} {base : Heap} {N ps : List Str} {qual : Str} {scope : Scope} {f : Addr} {cd : Value} {A : Around} {outer : List Env} {s s1 : Shared} {H : Hp} {E : XK} {us : List Value} {vs : List V}
    (S : FnScope N ps scope) (hd : A.handled = none) (e0 : Env0 P w K mg base A outer s H) (hl : vs.length = ps.length) (r : Vals vs us)
    (x : InCallC s s.heap.objs.size (bindL (envOfC qual scope s.heap.objs.size f cd).kindOf (ps.zip us) fun _ => none) (cellsFrom (s.heap.objs.size + 1) scope.names []) (bindC (envOfC qual scope s.heap.objs.size f cd).kindOf (ps.zip us) fun _ => none) s1) :
    Inv (cxOf CX P w K mg base N qual scope f cd A outer s H E) [] (start N vs) H s1 := by
  have hpl : ps.length ≤ N.length := by have := congrArg List.length S.pre; rw [List.length_take] at this; omega
  obtain ⟨h1, tk, rfl, hk⟩ := x.done
  have noA : ∀ b : Addr, b ∉ (cxOf CX P w K mg base N qual scope f cd A outer s H E).ex := fun b z => absurd (show b ∈ ([] : List Addr) from z) (by simp)
  refine ⟨⟨e0.mod, S.kind, rfl, rfl, Nat.le_refl _, fun y z c h1 h2 => ?_, fun y hy => ?_, fun y c _ h => ?_, fun _ => hd, Around.frames_deeper e0.frames, .inr ⟨rfl, rfl⟩, fun b z => absurd z (noA b), e0.bs, e0.bsz, fun b _ _ => noA b, fun b z => absurd z (noA b), e0.funs, e0.frf⟩,
    rfl, e0.bare, Un.kept hk, ⟨_, x.toInCall.ns, fun i y v h1 h2 h3 => ?_⟩, fun y c h => ⟨_, x.cell y c h⟩, e0.hok.fresh (Nat.le_refl _), fun y c h => ?_, fun p hp => absurd (show p ∈ ([] : List (Addr × Obj)) from hp) (by simp), e0.hok.kept hk, ?_⟩
  · exact name_of_addr x.apart (PySem.mem_of_lookup h1) (PySem.mem_of_lookup h2)
  · have hy : scope.names.lookup y = some .cell ∨ scope.names.lookup y = some .free := hy
    rcases hy with hy | hy
    · exact cell_has hy
    · exact absurd rfl (S.nofree _ (PySem.mem_of_lookup hy))
  · exact Nat.le_of_lt (x.above y c (PySem.mem_of_lookup h))
  · have hi : i < vs.length := by
      unfold start at h2
      by_cases hi : i < vs.length
      · exact hi
      · rw [List.getElem?_append_right (by simpa using hi)] at h2
        rw [List.getElem?_replicate] at h2
        split at h2 <;> cases h2
    have ha : vs[i]? = some v := by
      unfold start at h2
      rw [List.getElem?_append_left (by simpa using hi), List.getElem?_map] at h2
      cases e : vs[i]? with
      | none => rw [e] at h2; cases h2
      | some a => rw [e] at h2; cases h2; rfl
    obtain ⟨u, hu, rv⟩ := r.get ha
    have hp : ps[i]? = some y := by
      rw [← S.pre, List.getElem?_take_of_lt (by omega)]; exact h1
    have ndP : ps.Nodup := by rw [← S.pre]; exact S.nd.sublist (List.take_sublist _ _)
    refine ⟨u, rv, ?_⟩
    rcases S.par y (List.mem_of_getElem? hp) with k | k
    · exact .inl ⟨k, bindL_get ndP hp hu k⟩
    · obtain ⟨c, e⟩ := cell_has (n := s.heap.objs.size + 1) k
      refine .inr ⟨.inl k, c, e, ?_⟩
      have q := x.cell y c e
      rw [bindC_get ndP hp hu (by show scope.names.lookup y ≠ _; rw [k]; decide)] at q
      exact q
  · exact e0.hok.fresh (Nat.le_of_lt (x.above y c (PySem.mem_of_lookup h)))
  · unfold start
    show _ = N.length
    rw [List.length_append, List.length_map, List.length_replicate]
    omega

/-- THE RULE: a def (or a method) of the text, by its body. The body's reading t is chosen for each entry; it is run at the parameters' values -/
theorem fn_of {CX : CXT} {P : Program} {w : World} {K : PySem.W.Frag} {mg : Str → Option Value} {base : Heap} {k : Nat} {f : Addr} {name qual : Str} {params : Arguments} {body : List Stmt} {scope : Scope} {dV kV doc pm cdv ct oc : Value} {an od : Option Addr}
    {osl : Array (Option Value)} {N ps : List Str} {sp : Sp} (lk : K.lookup f = some ⟨oc, od, .func (PySem.W.fnOf name qual params body scope dV kV doc pm an cdv ct), osl⟩) (hcd : PySem.W.codeIn K cdv qual = true) (S : FnScope N ps scope)
    (len : ∀ vs H Q E, sp vs H Q E → vs.length = ps.length)
    (hbody : ∀ (A : Around) (outer : List Env) (s : Shared) (H : Hp) (vs : List V) (Q : VK) (E : XK), Room k (A.deeper (envOfC qual scope s.heap.objs.size f cdv)) → sp vs H Q E →
      ∃ t, PSs (cxOf CX P w K mg base N qual scope f cdv A outer s H E) body t ∧ t { nx := fun _ H' => Q .non H', rt := Q } (start N vs) H) :
    FnOk P w K mg base CX (k + 1) f (PySem.W.fnOf name qual params body scope dV kV doc pm an cdv ct) ps sp := by
  refine ⟨len, fun A outer s H args us vs Q E hr e0 hb r hsp => ?_⟩
  have hl := len _ _ _ _ hsp
  have KX : K.In s.heap := e0.mod.kin.keeps fun b o e => (e0.bs b o e).1
  have lim : s.heap.NoLimit := e0.mod.nolimit.keeps fun b o e => (e0.bs b o e).1
  have hkind : ∀ y ∈ ps.zip us, scope.names.lookup y.1 = some .local ∨ (scope.names.lookup y.1 = some .cell ∧ ((cellsFrom (s.heap.objs.size + 1) scope.names []).lookup y.1).isSome = true) := fun ⟨n, v⟩ hy => by
    rcases S.par n (List.of_mem_zip hy).1 with q | q
    · exact .inl q
    · exact .inr ⟨q, PySem.W.cellsFrom_some _ _ _ (.inl q)⟩
  refine codeAny_call_function hr.depth (KX _ _ lk) rfl S.co S.gen rfl (PySem.W.codeRec_of KX hcd) (hb _ _ _ _ ?_)
  refine wpAny_newFunctionEnv_cells S.kind hkind fun env he s1 x => ?_
  subst he
  refine ⟨lim.keeps x.toInCall.keep, codeAny_func ?_⟩
  obtain ⟨t, ht, hq⟩ := hbody A outer s H vs Q E (hr.deeper _) hsp
  have I : Inv (cxOf CX P w K mg base N qual scope f cdv A outer s H E) [] (start N vs) H s1 := inv_start S hr.hd e0 hl r x
  refine wpAny_mono (ht [] s1 (start N vs) H _ I hq) (fun fl s' hs => ?_) fun e s' hs => hs
  have fin : ∀ {σ' : St} {H' : Hp} {v : V} {u : Value}, Inv (cxOf CX P w K mg base N qual scope f cdv A outer s H E) [] σ' H' s' → RelV v u → Q v H' → CE outer P w H s Q u s' :=
    fun {σ' H' v u} J rv q => ⟨v, H', J.os, J.bare, J.base, J.hok, rv, q⟩
  cases fl with
  | ret u =>
    obtain ⟨v, σ', H', J, rv, q⟩ := hs
    exact fin J rv q
  | next =>
    obtain ⟨σ', H', J, q⟩ := hs
    exact fin (v := V.non) (u := Value.none) J rfl q
  | brk =>
    obtain ⟨_, _, _, q⟩ := hs
    exact False.elim q
  | cont =>
    obtain ⟨_, _, _, q⟩ := hs
    exact False.elim q
end L2

namespace L2
open PySem PySem.Spec PyProof.Rows
section
variable {X : Cx} {x : Str} {p pos : Pos} {e : Expr} {es : List Expr} {t : TA} {id T : String} {r : List V → Hp → VK → Prop}

def tCB (r : List V → Hp → VK → Prop) (t : TA) : TE := fun σ H Q => t σ H fun vs H1 => r vs H1 Q
/-- f(e, ..), f a built-in function -/
theorem pe_callB (hc : CallR X (.builtin id) r) (hg : Gl X x) (hm : X.mg x = none) (hv : bootBuiltins x = some (.builtin id)) (ha : PA X (e :: es) t) (hn : x ≠ "__name__" := by decide) (hdb : (x == ("__debug__" : Str)) = false := by decide)
    (he : starEach (e :: es) X.env = (false, eval e X.env) :: starEach es X.env := by rfl) (hpl : (backTo pos (starEach es X.env)).any (·.1) = false := by rfl) : PE X (.Call (.Name x p) (e :: es) [] pos) (tCB r t) := by
  intro pins s σ H Q I h
  refine wpAny_Call_Name_kw (ld_blt I hg hm hv ?_ hn hdb)
  exact PyProof.Rows.callWith_builtin1 (thn (ha pos pins s σ H _ I h) fun us s1 ⟨vs, H1, I1, r1, q1⟩ => hc pins s1 σ H1 vs us Q I1 r1 q1) he hpl
/-- T(e, ..), T a built-in type -/
theorem pe_callTy (hc : CallR X (.type T) r) (hg : Gl X x) (hm : X.mg x = none) (hv : bootBuiltins x = some (.type T)) (ha : PA X (e :: es) t) (hn : x ≠ "__name__" := by decide) (hdb : (x == ("__debug__" : Str)) = false := by decide)
    (he : starEach (e :: es) X.env = (false, eval e X.env) :: starEach es X.env := by rfl) (hpl : (backTo pos (starEach es X.env)).any (·.1) = false := by rfl) : PE X (.Call (.Name x p) (e :: es) [] pos) (tCB r t) := by
  intro pins s σ H Q I h
  refine wpAny_Call_Name_kw (ld_blt I hg hm hv ?_ hn hdb)
  exact PyProof.Rows.callWith_type1 (thn (ha pos pins s σ H _ I h) fun us s1 ⟨vs, H1, I1, r1, q1⟩ => hc pins s1 σ H1 vs us Q I1 r1 q1) he hpl
end
end L2

namespace HT
open PySem PyProof.Rows

/-- t < u of tuples of ints -/
def lexLt : List Int → List Int → Bool
  | [], [] => false
  | [], _ :: _ => true
  | _ :: _, [] => false
  | x :: xs, y :: ys => if x = y then lexLt xs ys else decide (x < y)
theorem lexLt_cons (x y : Int) (xs ys : List Int) : lexLt (x :: xs) (y :: ys) = if x = y then lexLt xs ys else decide (x < y) := rfl
theorem lexLt_nil_nil : lexLt [] [] = false := rfl
theorem lexLt_nil_cons (y : Int) (ys : List Int) : lexLt [] (y :: ys) = true := rfl
theorem lexLt_cons_nil (x : Int) (xs : List Int) : lexLt (x :: xs) [] = false := rfl

theorem eqAt_int (A : Around) (s : Shared) (a : Int) (t : Tok) (c : Int) (u : Tok) : ∃ e, SeqAt.EqAt A s (.int a t) (.int c u) e ∧ (e = true ↔ a = c) :=
  ⟨(a == c), SeqAt.EqAt.int_int a t c u, by simp⟩
theorem rcLt_int (A : Around) (s : Shared) (a : Int) (t : Tok) (c : Int) (u : Tok) (prog : Program) (w : World) (E : Value → Shared → Prop) (Q : Value → Shared → Prop) (h : Q (.bool (decide (a < c))) s) :
    wpAny (model prog w) A (richCompare .Lt (.int a t) (.int c u)) Q E s :=
  (PyProof.Rows.lt_int h : wpAny (model prog w) A (compareOp .Lt (.int a t) (.int c u)) Q E s)

section
open PySem.SeqAt
open PySem.AutoSeq1 (wpAny_loadPart')
open PySem.MeetsSeq PySem.MeetsSeq2 PySem.MeetsSeq3

theorem tuple_lt_ints (l b : Addr) (items items2 : Array Value) (n n2 : Nat) (dd dd2 : Option Addr) (sl sl2 : Array (Option Value)) (ns ms : List Int) (hi : IntsAre items.toList ns) (hj : IntsAre items2.toList ms) :
    Meets (Builtin.«tuple.__lt__» ⟨[.ref l, .ref b], []⟩)
      (fun _ R s => s.heap.get? l = some { cls := .type "tuple", dict := dd, data := .seq items n, slots := sl } ∧ s.heap.get? b = some { cls := .type "tuple", dict := dd2, data := .seq items2 n2, slots := sl2 } ∧
        R (.ok (.ret (.bool (lexLt ns ms)))) s) :=
  .of_wp fun prog w A R s h => by
    obtain ⟨hp, g, d, tk, os⟩ := s; obtain ⟨hl, hb, h⟩ := h
    have f2 := AutoSeq1.sub_tuple_tuple
    have z1 : items.size = ns.length := by rw [← hi.length]; simp
    have z2 : items2.size = ms.length := by rw [← hj.length]; simp
    wp_walk using wpAny_loadPart' hl, wpAny_loadPart' hb, wpAny_forIn_list _ (fun rest b s' => b.1 = none ∧ s' = ⟨hp, g, d, tk, os⟩ ∧ ∃ (vs ws : List Value) (ns' ms' : List Int), rest = vs.zip ws ∧
      IntsAre vs ns' ∧ IntsAre ws ms' ∧ ns'.length + items2.size = ms'.length + items.size ∧ R (.ok (.ret (.bool (lexLt ns' ms')))) ⟨hp, g, d, tk, os⟩) _
    case turn =>
      rintro ⟨y, x⟩ rest b s' ⟨hb', rfl, vs, ws, ns', ms', hz, hvi, hwi, hlen, hR⟩
      cases hvi with
      | nil => rw [List.zip_nil_left] at hz; cases hz
      | cons a t hvi' =>
        cases hwi with
        | nil => rw [List.zip_nil_right] at hz; cases hz
        | cons c u hwi' =>
          rw [List.zip_cons_cons] at hz
          injection hz with hyx hrest
          injection hyx with hy hx
          subst hy hx
          rw [lexLt_cons] at hR
          simp only [List.length_cons] at hlen
          obtain ⟨e, he, hiff⟩ := eqAt_int A.in1 ⟨hp, g, d, tk, os⟩ a t c u
          refine wpAny_bind (he prog w _ _ ?_)
          cases e with
          | true =>
            rw [if_pos (hiff.mp rfl)] at hR
            wp_walk
            exact ⟨rfl, rfl, _, _, _, _, hrest, hvi', hwi', by omega, hR⟩
          | false =>
            rw [if_neg (fun q => absurd (hiff.mpr q) Bool.false_ne_true)] at hR
            have hri := rcLt_int A.in1 ⟨hp, g, d, tk, os⟩ a t c u prog w
            wp_walk using hri
            exact ⟨_, rfl, by simpa using hR⟩
    case fin =>
      rintro ⟨b1, b2⟩ s' ⟨hb', rfl, vs, ws, ns', ms', hz, hvi, hwi, hlen, hR⟩
      simp only at hb'
      subst hb'
      have hv : lexLt ns' ms' = decide (items.size < items2.size) := by
        cases hvi with
        | nil =>
          cases hwi with
          | nil =>
            simp only [List.length_nil] at hlen
            rw [lexLt_nil_nil]
            exact (decide_eq_false (by omega)).symm
          | cons c u hw =>
            simp only [List.length_nil, List.length_cons] at hlen
            rw [lexLt_nil_cons]
            exact (decide_eq_true (by omega)).symm
        | cons a t hv =>
          cases hwi with
          | nil =>
            simp only [List.length_nil, List.length_cons] at hlen
            rw [lexLt_cons_nil]
            exact (decide_eq_false (by omega)).symm
          | cons c u hw =>
            rw [List.zip_cons_cons] at hz
            cases hz
      rw [hv] at hR
      wp_walk
      exact ⟨_, rfl, by simpa [Builtin.Tuple.tupleCompareSizes] using hR⟩
    case h =>
      exact ⟨rfl, rfl, items.toList, items2.toList, ns, ms, rfl, hi, hj, by omega, h⟩
end

section
variable {prog : Program} {w : World} {A : Around} {E : Value → Shared → Prop} {s : Shared}

theorem lt_tupInts {l b : Addr} {items items2 : Array Value} {ns ms : List Int} {Q : Value → Shared → Prop} (hl : IsTup s.heap l items) (hb : IsTup s.heap b items2) (hi : IntsAre items.toList ns) (hj : IntsAre items2.toList ms)
    (hu : A.units < cLine) (h : Q (.bool (lexLt ns ms)) s) : wpAny (model prog w) A (compareOp .Lt (.ref l) (.ref b)) Q E s := by
  obtain ⟨⟨cls, dd, data, sl⟩, ho, hc, n, hd⟩ := id hl
  obtain ⟨⟨cls2, dd2, data2, sl2⟩, ho2, hc2, n2, hd2⟩ := id hb
  simp only at hc hd hc2 hd2
  subst hc hd hc2 hd2
  exact richCompare_meets_room (op := .Lt) ⟨_, ho, rfl⟩ ⟨_, ho2, rfl⟩ PySem.F.slot_tuple_lt PySem.F.entry_tuple_lt (PySem.F.args_tuple_lt_2 _ _) (tuple_lt_ints l b items items2 n n2 dd dd2 sl sl2 ns ms hi hj)
    ⟨ho, ho2, show Value.bool (lexLt ns ms) ≠ Value.notImplemented ∧ Q (.bool (lexLt ns ms)) s from ⟨(fun x => nomatch x), h⟩⟩ hu

/-- t + u, t not empty -/
theorem cat_tup {t b : Addr} {vs ws : List Value} {Q : Value → Shared → Prop} (ht : IsTup s.heap t vs.toArray) (hb : IsTup s.heap b ws.toArray) (hv : vs ≠ [])
    (h1 : ws = [] → Q (.ref t) s) (h2 : ws ≠ [] → Q (.ref s.heap.objs.size) { s with heap := s.heap.push { cls := .type "tuple", data := .seq (vs ++ ws).toArray } })
    (hsz : vs.length + ws.length ≤ sizeLine) : wpAny (model prog w) A (binaryOp .Add (.ref t) (.ref b)) Q E s := by
  obtain ⟨⟨cls, dd, data, sl⟩, ho, hc, n, hd⟩ := id ht
  obtain ⟨⟨cls2, dd2, data2, sl2⟩, ho2, hc2, n2, hd2⟩ := id hb
  simp only at hc hd hc2 hd2
  subst hc hd hc2 hd2
  have e : vs.toArray ++ ws.toArray = (vs ++ ws).toArray := by simp
  by_cases hw : ws = []
  · exact concat_meets ⟨_, ho, rfl⟩ ⟨_, ho2, rfl⟩ noFill_tuple_add seq_tuple_add PySem.F.slot_tuple_add PySem.F.entry_tuple_add (PySem.F.args_tuple_add_2 _ _)
      (tuple_addW1 t b vs.toArray ws.toArray n n2 dd dd2 sl sl2 (by simpa using hv) (by simp [hw])) ⟨ho, ho2, h1 hw⟩
  · refine concat_meets ⟨_, ho, rfl⟩ ⟨_, ho2, rfl⟩ noFill_tuple_add seq_tuple_add PySem.F.slot_tuple_add PySem.F.entry_tuple_add (PySem.F.args_tuple_add_2 _ _)
      (tuple_addW2 t b vs.toArray ws.toArray n n2 dd dd2 sl sl2 (by simpa using hv) (by simpa using hw) (by rw [List.size_toArray, List.size_toArray]; exact hsz)) ⟨ho, ho2, ?_⟩
    rw [e]
    exact h2 hw

/-- a slice's bound as a place among n (d where it is left out) -/
def sIx (n d : Nat) : Option Int → Nat
  | none => d
  | some v => if v < 0 then (v + (n : Int)).toNat else min v.toNat n
theorem sIx_none (n d : Nat) : sIx n d none = d := rfl
theorem sIx_nat (n d k : Nat) : sIx n d (some (k : Int)) = min k n := by
  show (if (k : Int) < 0 then ((k : Int) + (n : Int)).toNat else min (k : Int).toNat n) = min k n
  rw [if_neg (by omega), Int.toNat_natCast]
theorem sIx_le (n d : Nat) (hd : d ≤ n) (o : Option Int) : sIx n d o ≤ n := by
  cases o with
  | none => exact hd
  | some v =>
    show (if v < 0 then (v + (n : Int)).toNat else min v.toNat n) ≤ n
    by_cases hv : v < 0
    · rw [if_pos hv]; omega
    · rw [if_neg hv]; exact Nat.min_le_right _ _
theorem clip_eq (v : Int) (n d : Nat) : (if v < 0 then max (v + (n : Int)) 0 else min v (n : Int)) = ((sIx n d (some v) : Nat) : Int) := by
  show (if v < 0 then max (v + (n : Int)) 0 else min v (n : Int)) = (((if v < 0 then (v + (n : Int)).toNat else min v.toNat n) : Nat) : Int)
  by_cases hv : v < 0
  · simp only [if_pos hv]; omega
  · simp only [if_neg hv]; omega
theorem adjust_gen (lo hi : Option Int) (n : Nat) : Builtin.Slice.sliceAdjust lo hi 1 (n : Int) = (((sIx n 0 lo : Nat) : Int), ((sIx n n hi : Nat) : Int)) := by
  have h1 : ¬ ((1 : Int) < 0) := by omega
  unfold Builtin.Slice.sliceAdjust
  simp only [h1, if_false]
  refine Prod.ext ?_ ?_
  · cases lo with
    | none => rfl
    | some v => exact clip_eq v n 0
  · cases hi with
    | none => rfl
    | some v => exact clip_eq v n n
theorem places_gen (i j : Nat) : Builtin.Slice.slicePlaces (i : Int) (j : Int) 1 = j - i := by
  unfold Builtin.Slice.slicePlaces
  have h1 : (1 : Int) > 0 := by omega
  simp only [h1, if_true, Int.ediv_one]
  split <;> omega
theorem slicePart_ {v : Value} {o : Option Int} {Q : Option Int → Shared → Prop} (p : IsPart v o) (h : Q o s) : wpAny (model prog w) A (Builtin.Slice.slicePartIndex v) Q E s := by
  cases p with
  | none => exact slicePart_none h
  | int i t => exact slicePart_int h
theorem sliceApplied_gen {sl : Addr} {vl vu : Value} {lo hi : Option Int} {n : Nat} {Q : Int × Int × Nat → Shared → Prop} (hs : s.heap.IsSliceOf sl vl vu .none) (pl : IsPart vl lo) (pu : IsPart vu hi)
    (h : Q (((sIx n 0 lo : Nat) : Int), 1, sIx n n hi - sIx n 0 lo) s) : wpAny (model prog w) A (Builtin.Slice.sliceApplied (.ref sl) (pure (n : Int))) Q E s := by
  obtain ⟨os, hos, hcs, hds⟩ := id hs
  unfold Builtin.Slice.sliceApplied Builtin.Slice.sliceFields
  refine wpAny_bind (wpAny_bind (wpAny_field hos hds (x := vl) rfl (wpAny_bind (wpAny_field hos hds (x := vu) rfl (wpAny_bind (wpAny_field hos hds (x := .none) rfl (wpAny_pure ?_)))))))
  refine wpAny_bind (slicePart_none ?_)
  show wpAny _ _ (if ((1 : Int) == 0) = true then _ else _) _ _ s
  rw [if_neg (by decide)]
  refine wpAny_bind (slicePart_ pl (wpAny_bind (slicePart_ pu (wpAny_bind (wpAny_pure ?_)))))
  show wpAny _ _ (match Builtin.Slice.sliceAdjust lo hi 1 (n : Int) with | (lo, hi) => pure (lo, (1 : Int), Builtin.Slice.slicePlaces lo hi 1)) _ _ s
  rw [adjust_gen lo hi n]
  show wpAny _ _ (pure (((sIx n 0 lo : Nat) : Int), (1 : Int), Builtin.Slice.slicePlaces ((sIx n 0 lo : Nat) : Int) ((sIx n n hi : Nat) : Int) 1)) _ _ s
  rw [places_gen]
  exact wpAny_pure h
theorem pick_gen (xs : Array Value) (i k : Nat) : ((List.range k).filterMap fun (m : Nat) => xs[((i : Int) + (m : Int) * 1).toNat]?).toArray = ((xs.toList.drop i).take k).toArray := by
  have e : (fun (m : Nat) => xs[((i : Int) + (m : Int) * 1).toNat]?) = fun m => xs[i + m]? := by
    funext m
    have : ((i : Int) + (m : Int) * 1).toNat = i + m := by omega
    rw [this]
  rw [e]
  have := pick_run xs i k
  rw [List.filterMap_map] at this
  have e2 : ((fun x => xs[x]?) ∘ fun x => i + x) = fun m => xs[i + m]? := rfl
  rw [e2] at this
  rw [this]

theorem getItem_tuple_cut {t sl : Addr} {items : Array Value} {vl vu : Value} {lo hi : Option Int} {Q : Value → Shared → Prop} (ht : IsTup s.heap t items) (hs : s.heap.IsSliceOf sl vl vu .none) (pl : IsPart vl lo) (pu : IsPart vu hi)
    (hw : ¬ (sIx items.size 0 lo = 0 ∧ sIx items.size items.size hi = items.size))
    (h : Q (.ref s.heap.objs.size) { s with heap := s.heap.push { cls := .type "tuple", data := .seq ((items.toList.drop (sIx items.size 0 lo)).take (sIx items.size items.size hi - sIx items.size 0 lo)).toArray } })
    (hsz : items.size ≤ sizeLine) : wpAny (model prog w) A (getItem (.ref t) (.ref sl)) Q E s := by
  have htake : sizeOk (.seq ((items.toList.drop (sIx items.size 0 lo)).take (sIx items.size items.size hi - sIx items.size 0 lo)).toArray) := by
    show ((items.toList.drop (sIx items.size 0 lo)).take (sIx items.size items.size hi - sIx items.size 0 lo)).toArray.size ≤ sizeLine
    rw [List.size_toArray, List.length_take, List.length_drop, Array.length_toList]
    omega
  have hj : sIx items.size items.size hi ≤ items.size := sIx_le _ _ (Nat.le_refl _) hi
  obtain ⟨os, hos, hcs, hds⟩ := id hs
  have hTs : s.TypeIs (.ref sl) "slice" := ⟨os, hos, hcs⟩
  unfold getItem
  try with_reducible refine wpAny_holding ?_
  first | refine wpAny_bind (wpAny_pure ?_) | skip
  refine wpAny_bind (wpAny_sequenceKey ht.typeIs (by decide) ?_)
  refine wpAny_bind (wpAny_callSpecial?_slot (name := Str.ofString "__getitem__") ht.typeIs PyProof.Rows.slot_tuple_getitem
    (wpAny_call_entry PyProof.Rows.slot_tuple_getitem ht.typeIs entry_tuple_getitem ?_ (args_tuple_getitem _ _)))
  show wpAny _ _ (Builtin.Tuple.tupleItemsOf (.ref t) >>= _) _ _ s
  refine wpAny_bind (tupleItemsOf_ ht ?_)
  refine wpAny_bind (wpAny_typeOf hTs ?_)
  rw [if_pos (by decide)]
  refine wpAny_bind (sliceApplied_gen hs pl pu ?_)
  have hno : ¬ ((((sIx items.size 0 lo : Nat) : Int) == 0 && (1 : Int) == 1 && (sIx items.size items.size hi - sIx items.size 0 lo) == items.size) = true) := by
    intro q
    rw [Bool.and_eq_true, Bool.and_eq_true] at q
    have q1 : ((sIx items.size 0 lo : Nat) : Int) = 0 := eq_of_beq q.1.1
    have q2 : sIx items.size items.size hi - sIx items.size 0 lo = items.size := eq_of_beq q.2
    exact hw ⟨by omega, by omega⟩
  show wpAny _ _ (if (((sIx items.size 0 lo : Nat) : Int) == 0 && (1 : Int) == 1 && (sIx items.size items.size hi - sIx items.size 0 lo) == items.size) = true then _ else _) _ _ s
  rw [if_neg hno, pick_gen]
  first
    | exact wpAny_bind (m := Builtin.Tuple.tupleExact _) (wpAny_newObj_type (wpAny_pure ⟨_, rfl, wpAny_pure h⟩) htake)
    | exact wpAny_bind (m := Builtin.Tuple.tupleExact _) (wpAny_newObj_type (wpAny_bind (wpAny_pure (wpAny_pure ⟨_, rfl, wpAny_pure h⟩))) htake)
    | exact wpAny_bind (wpAny_bind (m := Builtin.Tuple.tupleExact _) (wpAny_newObj_type (wpAny_pure (wpAny_pure ⟨_, rfl, wpAny_pure h⟩)) htake))
    | exact wpAny_bind (wpAny_bind (m := Builtin.Tuple.tupleExact _) (wpAny_newObj_type (wpAny_pure ⟨_, rfl, wpAny_pure h⟩) htake))
end
end HT

namespace L2
open PySem PySem.Spec PyProof.Rows

abbrev TO := St → Hp → (Option Int → Hp → Prop) → Prop
/-- a slice's part (left out, or an int) -/
def PO (X : Cx) (e : Option Expr) (t : TO) : Prop :=
  ∀ (pins : List (Addr × Obj)) (s : Shared) (σ : St) (H : Hp) (Q : Option Int → Hp → Prop), Inv X pins σ H s → t σ H Q →
    wpAny (model X.prog X.w) X.A (evalPart e X.env) (fun u s' => ∃ o H', Inv X pins σ H' s' ∧ IsPart u o ∧ Q o H') X.xe s
def tNoPart : TO := fun _ H Q => Q none H
def tPart (t : TE) : TO := fun σ H Q => t σ H fun x H1 => ∃ i, x = .int i ∧ Q (some i) H1

theorem intsAre_of {ns : List Int} : ∀ {us : List Value}, Vals (ns.map V.int) us → IntsAre us ns := by
  induction ns with
  | nil => intro us r; rw [List.map_nil] at r; cases r; exact .nil
  | cons n ns ih =>
    intro us r
    rw [List.map_cons] at r
    cases r with
    | cons r1 r2 =>
      obtain ⟨t, e⟩ := r1
      subst e
      exact .cons n t (ih r2)

section
variable {X : Cx} {e : Expr} {te : TE} {lo hi : Option Expr} {tl th : TO} {pos p2 : Pos}

theorem po_none : PO X none tNoPart := by
  intro pins s σ H Q I h
  rw [evalPart_none]
  exact wpAny_pure ⟨none, H, I, .none, h⟩
theorem po_some (h : PE X e te) : PO X (some e) (tPart te) := by
  intro pins s σ H Q I hw
  rw [evalPart_some]
  refine thn (h pins s σ H _ I hw) fun u s1 ⟨x, H1, I1, r1, q1⟩ => ?_
  obtain ⟨i, rfl, q⟩ := q1
  obtain ⟨t, rfl⟩ := r1
  exact ⟨some i, H1, I1, .int i t, q⟩

/-- what a slice of a value is, by values: the slice object stands at sl -/
def SlR (X : Cx) (r : V → Option Int → Option Int → Hp → VK → Prop) : Prop :=
  ∀ (pins : List (Addr × Obj)) (s : Shared) (σ : St) (H : Hp) (x : V) (v vl vu : Value) (lo hi : Option Int) (sl : Addr) (Q : VK), Inv X pins σ H s → RelV x v → s.heap.IsSliceOf sl vl vu .none → IsPart vl lo → IsPart vu hi → r x lo hi H Q →
    ∃ T id, typeLookup (.type T) "__getitem__" = pure (some (.builtin id)) ∧ s.TypeIs v T ∧ wpAny (model X.prog X.w) X.A (getItem v (.ref sl)) (EP X pins σ Q) X.xe s
def tSl (r : V → Option Int → Option Int → Hp → VK → Prop) (te : TE) (tl th : TO) : TE := fun σ H Q => te σ H fun x H1 => tl σ H1 fun l H2 => th σ H2 fun u H3 => r x l u H3 Q
/-- a[lo:hi], any a -/
theorem pe_slice {r : V → Option Int → Option Int → Hp → VK → Prop} (hr : SlR X r) (he : PE X e te) (hl : PO X lo tl) (hu : PO X hi th) : PE X (.Subscript e (.Slice lo hi none p2) pos) (tSl r te tl th) := by
  intro pins s σ H Q I h
  refine Subscript_ (thn (he pins s σ H _ I h) fun v s1 ⟨x, H1, I1, r1, q1⟩ => ?_)
  refine wpAny_Slice (thn (hl pins s1 σ H1 _ I1 q1) fun vl s2 ⟨l, H2, I2, pl, q2⟩ => thn (hu pins s2 σ H2 _ I2 q2) fun vu s3 ⟨u, H3, I3, pu, q3⟩ => ?_)
  rw [evalPart_none]
  refine wpAny_pure ?_
  have I4 : Inv X pins σ H3 { s3 with heap := s3.heap.push { cls := .type "slice", data := .fields #[vl, vu, .none] } } := I3.kept (t' := s3.toks) fun b ob q => Heap.get?_push_of_some _ q
  obtain ⟨T, id, hT, ht, hg⟩ := hr pins { s3 with heap := s3.heap.push { cls := .type "slice", data := .fields #[vl, vu, .none] } } σ H3 x v vl vu l u s3.heap.objs.size Q I4 r1 (Heap.IsSliceOf.new ..) pl pu q3
  show wpAny (model X.prog X.w) X.A (subscriptTail e (.Slice lo hi none p2) v (.ref s3.heap.objs.size)) (EP X pins σ Q) X.xe { s3 with heap := s3.heap.push { cls := .type "slice", data := .fields #[vl, vu, .none] } }
  exact tail_any (ops := [.ref s3.heap.objs.size, v]) ht hT hg (by with_unfolding_all rfl)

/-- the items of xs[lo:hi] -/
def cutV (xs : List V) (lo hi : Option Int) : List V := (xs.drop (HT.sIx xs.length 0 lo)).take (HT.sIx xs.length xs.length hi - HT.sIx xs.length 0 lo)
theorem cutV_length (xs : List V) (lo hi : Option Int) : (cutV xs lo hi).length ≤ xs.length := by
  unfold cutV
  rw [List.length_take, List.length_drop]
  omega
/-- t[lo:hi], not the whole of it (the whole would be t itself) -/
def rSlT (K : PySem.W.Frag) : V → Option Int → Option Int → Hp → VK → Prop := fun x lo hi H Q => ∃ a xs, x = .ref a ∧ SqT K H a xs ∧
  ¬ (HT.sIx xs.length 0 lo = 0 ∧ HT.sIx xs.length xs.length hi = xs.length) ∧ ∀ p, H p = none → Q (.ref p) (upd H p (.tup (cutV xs lo hi)))
theorem sl_tup : SlR X (rSlT X.K) := by
  intro pins s σ H x v vl vu lo hi sl Q I rx hs pl pu h
  obtain ⟨a, xs, rfl, hx, hw, q⟩ := h
  cases rx
  obtain ⟨its, r, ht, hz⟩ := I.tuple hx
  have hlen : its.toArray.size = xs.length := by rw [List.size_toArray]; exact r.length.symm
  refine ⟨"tuple", _, PyProof.Rows.slot_tuple_getitem.lookup, ht.typeIs, ?_⟩
  refine HT.getItem_tuple_cut ht hs pl pu (by rw [hlen]; exact hw) ?_ (by rw [hlen]; exact hz)
  rw [hlen]
  refine ⟨.ref s.heap.objs.size, _, I.laid (t' := s.toks) (o := .tup (cutV xs lo hi)) (fun b ob q => Heap.get?_push_of_some _ q) (Nat.le_refl _) ?_, rfl, q _ (I.hok.fresh (Nat.le_refl _))⟩
  exact ⟨Nat.le_trans (cutV_length xs lo hi) hz, _, (r.drop (HT.sIx xs.length 0 lo)).take (HT.sIx xs.length xs.length hi - HT.sIx xs.length 0 lo), IsTup.new _ _⟩

def rLtT (K : PySem.W.Frag) : R2 := fun x y H Q => ∃ a b ns ms, x = .ref a ∧ y = .ref b ∧ SqT K H a (ns.map V.int) ∧ SqT K H b (ms.map V.int) ∧ Q (.bl (HT.lexLt ns ms)) H
theorem op_ltT (hu : X.A.units < cLine) : OpR X (compareOp .Lt) (rLtT X.K) := by
  intro pins s σ H x y v u Q I rx ry h
  obtain ⟨a, b, ns, ms, rfl, rfl, ha, hb, q⟩ := h
  cases rx
  cases ry
  obtain ⟨its, r1, p1, _⟩ := I.tuple ha
  obtain ⟨its2, r2, p2, _⟩ := I.tuple hb
  have i1 : IntsAre its.toArray.toList ns := intsAre_of r1
  have i2 : IntsAre its2.toArray.toList ms := intsAre_of r2
  exact HT.lt_tupInts p1 p2 i1 i2 hu ⟨.bl (HT.lexLt ns ms), H, I, rfl, q⟩
/-- t + u, t not empty: u empty gives t itself -/
def rCatT (K : PySem.W.Frag) : R2 := fun x y H Q => ∃ a b xs ys, x = .ref a ∧ y = .ref b ∧ SqT K H a xs ∧ SqT K H b ys ∧ xs ≠ [] ∧ xs.length + ys.length ≤ sizeLine ∧
  (ys = [] → Q (.ref a) H) ∧ (ys ≠ [] → ∀ p, H p = none → Q (.ref p) (upd H p (.tup (xs ++ ys))))
theorem Vals.nil_iff {xs : List V} {us : List Value} (r : Vals xs us) : us = [] ↔ xs = [] := by
  cases r with
  | nil => simp
  | cons _ _ => simp
theorem op_catT : OpR X (binaryOp .Add) (rCatT X.K) := by
  intro pins s σ H x y v u Q I rx ry h
  obtain ⟨a, b, xs, ys, rfl, rfl, ha, hb, hx, hz, q1, q2⟩ := h
  cases rx
  cases ry
  obtain ⟨its, r1, p1, _⟩ := I.tuple ha
  obtain ⟨its2, r2, p2, _⟩ := I.tuple hb
  refine HT.cat_tup p1 p2 (fun z => hx (r1.nil_iff.mp z)) (fun z => ⟨.ref a, H, I, rfl, q1 (r2.nil_iff.mp z)⟩) (fun z => ?_) (by rw [← r1.length, ← r2.length]; exact hz)
  refine ⟨.ref s.heap.objs.size, _, I.laid (t' := s.toks) (o := .tup (xs ++ ys)) (fun b ob q => Heap.get?_push_of_some _ q) (Nat.le_refl _) ?_, rfl, q2 (fun w => z (r2.nil_iff.mpr w)) _ (I.hok.fresh (Nat.le_refl _))⟩
  exact ⟨by rw [List.length_append]; exact hz, _, r1.append r2, IsTup.new _ _⟩
end
end L2

namespace L2
open PySem PySem.Spec PyProof.Rows

/-- the place that an index of any sign means -/
def ixN (n : Nat) (i : Int) : Option Nat := if 0 ≤ i then (if i < n then some i.toNat else none) else if -(n : Int) ≤ i then some (i + n).toNat else none
def atI {α : Type} (xs : List α) (i : Int) : Option α := (ixN xs.length i).bind fun j => xs[j]?
theorem ixN_seq {n : Nat} {i : Int} {j : Nat} (h : ixN n i = some j) : seqIndex? i n = some j ∧ j < n ∧ -(n : Int) ≤ i ∧ i < n := by
  unfold ixN at h
  by_cases h0 : 0 ≤ i
  · rw [if_pos h0] at h
    by_cases h1 : i < n
    · rw [if_pos h1] at h
      have e : i.toNat = j := Option.some.inj h
      exact ⟨by rw [seqIndex_of h0 h1, e], by omega, by omega, h1⟩
    · rw [if_neg h1] at h; cases h
  · rw [if_neg h0] at h
    by_cases h1 : -(n : Int) ≤ i
    · rw [if_pos h1] at h
      have e : (i + n).toNat = j := Option.some.inj h
      exact ⟨by rw [seqIndex_neg (by omega) h1, e], by omega, h1, by omega⟩
    · rw [if_neg h1] at h; cases h
theorem atI_get {α : Type} {xs : List α} {i : Int} {v : α} (h : atI xs i = some v) : ∃ j, seqIndex? i xs.length = some j ∧ xs[j]? = some v ∧ j < xs.length ∧ -(xs.length : Int) ≤ i ∧ i < xs.length := by
  unfold atI at h
  cases e : ixN xs.length i with
  | none => rw [e] at h; cases h
  | some j =>
    rw [e] at h
    obtain ⟨h1, h2, h3, h4⟩ := ixN_seq e
    exact ⟨j, h1, h, h2, h3, h4⟩
theorem atI_nat {α : Type} {xs : List α} {j : Nat} {v : α} (h : xs[j]? = some v) : atI xs (j : Int) = some v := by
  have hj : j < xs.length := (List.getElem?_eq_some_iff.mp h).1
  have e : ixN xs.length (j : Int) = some j := by
    unfold ixN
    rw [if_pos (by omega), if_pos (by omega)]; simp
  unfold atI; rw [e]; exact h
/-- what stands as an index of a plain subscript -/
def PlainIx (b : Expr) : Prop := ∀ o i, subscripted b false o i = operate [o, i] (getItem o i)
/-- a subscript by values -/
def IxR (X : Cx) (r : R2) : Prop :=
  ∀ (value slice : Expr) (pins : List (Addr × Obj)) (s : Shared) (σ : St) (H : Hp) (x y : V) (v u : Value) (Q : VK), Inv X pins σ H s → RelV x v → RelV y u → r x y H Q →
    subscripted slice false v u = operate [v, u] (getItem v u) → wpAny (model X.prog X.w) X.A (subscriptTail value slice v u) (EP X pins σ Q) X.xe s
/-- a call of a builtin's method by values: the receiver, the arguments -/
def MtR (X : Cx) (id : String) (r : V → List V → Hp → VK → Prop) : Prop :=
  ∀ (pins : List (Addr × Obj)) (s : Shared) (σ : St) (H : Hp) (x : V) (xs : List V) (v : Value) (us : List Value) (Q : VK), Inv X pins σ H s → RelV x v → Vals xs us → r x xs H Q →
    wpAny (model X.prog X.w) X.A (call (.builtin id) (v :: us)) (EP X pins σ Q) X.xe s
section
variable {X : Cx} {a b : Expr} {ta tb : TE} {pos : Pos}
/-- a[b] -/
theorem pe_ix {r : R2} (hr : IxR X r) (ha : PE X a ta) (hb : PE X b tb) (hs : PlainIx b) : PE X (.Subscript a b pos) (tOp r ta tb) := by
  intro pins s σ H Q I h
  exact Subscript_ (binT ha hb I h fun v u s2 x y H2 I2 rx ry q => hr a b pins s2 σ H2 x y v u Q I2 rx ry q (hs _ _))

def rIxL (K : PySem.W.Frag) : R2 := fun x y H Q => ∃ p xs i v, x = .ref p ∧ y = .int i ∧ SqL K H p xs ∧ atI xs i = some v ∧ Q v H
def rIxT (K : PySem.W.Frag) : R2 := fun x y H Q => ∃ p xs i v, x = .ref p ∧ y = .int i ∧ SqT K H p xs ∧ atI xs i = some v ∧ Q v H
def rIxS : R2 := fun x y H Q => ∃ z i c, x = .str z ∧ y = .int i ∧ z.length ≤ sizeLine ∧ atI z.cps.toList i = some c ∧ Q (.str ⟨#[c]⟩) H
theorem ix_list : IxR X (rIxL X.K) := by
  intro value slice pins s σ H x y v u Q I rx ry h hs
  obtain ⟨p, xs, i, z, rfl, rfl, hq, he, q⟩ := h
  cases rx
  obtain ⟨t, rfl⟩ := ry
  obtain ⟨its, r, pl, hz⟩ := I.list hq
  obtain ⟨j, h1, h2, h3, h4, h5⟩ := atI_get he
  obtain ⟨w, ew, rw'⟩ := r.get h2
  have hl := r.length
  have hn := line63
  have fin : EP X pins σ Q w s := ⟨z, H, I, rw', q⟩
  by_cases h0 : 0 ≤ i
  · have hj : i.toNat = j := by
      rw [seqIndex_of h0 h5] at h1
      exact Option.some.inj h1
    exact item_listR pl.isList h0 (by omega) (by rw [hj]; simpa using ew) fin hs
  · have hj : (i + (its.toArray.size : Int)).toNat = j := by
      rw [seqIndex_neg (by omega) h4] at h1
      rw [List.size_toArray, ← hl]
      exact Option.some.inj h1
    exact subscriptTail_builtinR (x := w) pl.isList.typeIs slot_list_getitem.lookup
      (wpAny_getItem_list_neg (Q := fun r s' => r = w ∧ EP X pins σ Q r s') pl.isList (by omega) (by rw [List.size_toArray] <;> omega) (by omega) (by rw [hj]; simpa using ew) ⟨rfl, fin⟩) hs
theorem ix_tup : IxR X (rIxT X.K) := by
  intro value slice pins s σ H x y v u Q I rx ry h hs
  obtain ⟨p, xs, i, z, rfl, rfl, hq, he, q⟩ := h
  cases rx
  obtain ⟨t, rfl⟩ := ry
  obtain ⟨its, r, pl, hz⟩ := I.tuple hq
  obtain ⟨j, h1, h2, h3, h4, h5⟩ := atI_get he
  obtain ⟨w, ew, rw'⟩ := r.get h2
  have hl := r.length
  have hn := line63
  have fin : EP X pins σ Q w s := ⟨z, H, I, rw', q⟩
  exact subscriptTail_builtinR (x := w) pl.typeIs slot_tuple_getitem.lookup
    (getItem_tuple (j := j) (Q := fun r s' => r = w ∧ EP X pins σ Q r s') pl (by omega) (by omega) (by rw [List.size_toArray, ← hl]; exact h1) (by simpa using ew) ⟨rfl, fin⟩) hs
theorem ix_str : IxR X rIxS := by
  intro value slice pins s σ H x y v u Q I rx ry h hs
  obtain ⟨z, i, c, rfl, rfl, hz, he, q⟩ := h
  obtain ⟨t, rfl⟩ := rx
  obtain ⟨t', rfl⟩ := ry
  obtain ⟨j, h1, h2, h3, h4, h5⟩ := atI_get he
  have hl : z.cps.toList.length = z.length := by simp [Str.length]
  rw [hl] at h1 h4 h5
  have hn := line63
  exact tail_any (typeIs_str s z t) slot_str_getitem.lookup (getItem_str (c := c) (by
    have e1 : decide (i < -(2 ^ 63 : Int)) = false := decide_eq_false (by omega)
    have e2 : decide (i ≥ 2 ^ 63) = false := decide_eq_false (by omega)
    rw [e1, e2, Bool.or_false]) (by rw [h1]; simpa using h2) ⟨.str ⟨#[c]⟩, H, I.tok _, ⟨_, rfl⟩, q⟩) hs
/-- the list's object behind a store -/
theorem mapSeq_set (its : List Value) (n j : Nat) (u : Value) : Obj.mapSeq (·.setIfInBounds j u) { cls := .type "list", data := .seq its.toArray n } = { cls := .type "list", data := .seq (its.set j u).toArray n } := by
  simp [Obj.mapSeq]
theorem Inv.lst {pins : List (Addr × Obj)} {σ : St} {H : Hp} {s : Shared} {p : Addr} {xs : List V} (I : Inv X pins σ H s) (h : H p = some (.lst xs)) :
    ∃ (its : List Value) (n : Nat), Vals xs its ∧ s.heap.get? p = some { cls := .type "list", data := .seq its.toArray n } ∧ xs.length ≤ sizeLine := by
  obtain ⟨z, its, n, r, e⟩ := I.hok p _ h
  exact ⟨its, n, r, e, z⟩
/-- the list at p is written by an update of its object -/
theorem Inv.lstUpd {pins : List (Addr × Obj)} {σ : St} {H : Hp} {s : Shared} {p : Addr} {xs ys : List V} {its its' : List Value} {n n' : Nat} {f : Obj → Obj} (I : Inv X pins σ H s) (h : H p = some (.lst xs))
    (ho : s.heap.get? p = some { cls := .type "list", data := .seq its.toArray n }) (hf : f { cls := .type "list", data := .seq its.toArray n } = { cls := .type "list", data := .seq its'.toArray n' }) (r : Vals ys its') (hz : ys.length ≤ sizeLine) (t : Nat) :
    Inv X pins σ (upd H p (.lst ys)) { s with heap := s.heap.update p f, toks := t } := by
  have e : (s.heap.update p f).get? p = some { cls := .type "list", data := .seq its'.toArray n' } := by
    rw [Heap.get?_update_self f ho (by rw [hf] <;> rfl), hf]
  refine I.write (x := p) (e := p) (by rw [h]; trivial) (.inl rfl) (fun b u hb q => (Heap.get?_update_other _ _ (Ne.symm hb)).trans q) ⟨_, e⟩ ?_
  exact ⟨hz, its', n', r, e⟩
def rSetL : V → V → V → Hp → (Hp → Prop) → Prop := fun o i v H Q => ∃ p xs k j, o = .ref p ∧ i = .int k ∧ H p = some (.lst xs) ∧ ixN xs.length k = some j ∧ Q (upd H p (.lst (xs.set j v)))
theorem set_list : PSet X rSetL := by
  intro pins s σ H o i v ov iv u Q I ro ri rv h
  obtain ⟨p, xs, k, j, rfl, rfl, hp, hj, q⟩ := h
  cases ro
  obtain ⟨t, rfl⟩ := ri
  obtain ⟨its, n, r, ho, hz⟩ := I.lst hp
  obtain ⟨h1, h2, h3, h4⟩ := ixN_seq hj
  have hl := r.length
  have hn := line63
  have I' : Inv X pins σ (upd H p (.lst (xs.set j v))) { s with heap := s.heap.update p (Obj.mapSeq (·.setIfInBounds j u)) } :=
    I.lstUpd hp ho (mapSeq_set its n j u) (r.set rv j) (by rw [List.length_set]; exact hz) s.toks
  by_cases h0 : 0 ≤ k
  · have hk : k.toNat = j := by
      rw [seqIndex_of h0 h4] at h1
      exact Option.some.inj h1
    exact PySem.W.ki_setAt ho h0 (by omega) (by rw [List.size_toArray, ← hl]; exact h4) (by rw [hk]; exact ⟨_, I', q⟩)
  · have hk : (k + (its.toArray.size : Int)).toNat = j := by
      rw [seqIndex_neg (by omega) h3] at h1
      rw [List.size_toArray, ← hl]
      exact Option.some.inj h1
    exact PySem.W.ki_setBack ho (by omega) (by rw [List.size_toArray, ← hl]; exact h3) (by omega) (by rw [hk]; exact ⟨_, I', q⟩)

theorem slice_bounds (lo hi : Option Int) (n : Nat) : (sliceBounds lo hi none n).1 = ((HT.sIx n 0 lo : Nat) : Int) ∧ (sliceBounds lo hi none n).2.1 = ((HT.sIx n n hi : Nat) : Int) ∧ (sliceBounds lo hi none n).2.2 = 1 := by
  refine ⟨?_, ?_, rfl⟩
  · cases lo with
    | none => simp [sliceBounds, HT.sIx]
    | some i =>
      simp only [sliceBounds, HT.sIx, Option.getD_none, show (1 : Int) > 0 by decide, if_true]
      by_cases h : i < 0
      · simp only [h, if_true] <;> omega
      · simp only [h, if_false] <;> omega
  · cases hi with
    | none => simp [sliceBounds, HT.sIx]
    | some i =>
      simp only [sliceBounds, HT.sIx, Option.getD_none, show (1 : Int) > 0 by decide, if_true]
      by_cases h : i < 0
      · simp only [h, if_true] <;> omega
      · simp only [h, if_false] <;> omega
theorem slicePick_cut (its : List Value) (lo hi : Option Int) : slicePick its.toArray lo hi none = ((its.drop (HT.sIx its.length 0 lo)).take (HT.sIx its.length its.length hi - HT.sIx its.length 0 lo)).toArray := by
  obtain ⟨h1, h2, h3⟩ := slice_bounds lo hi its.toArray.size
  unfold slicePick
  rw [h1, h2, h3]
  simp only [sliceRange_one, pick_run, List.size_toArray] <;> rfl
/-- xs[lo:hi] of a list: a new list -/
def rSlL (K : PySem.W.Frag) : V → Option Int → Option Int → Hp → VK → Prop := fun x lo hi H Q => ∃ a xs, x = .ref a ∧ SqL K H a xs ∧ ∀ p, H p = none → Q (.ref p) (upd H p (.lst (cutV xs lo hi)))
theorem sl_list : SlR X (rSlL X.K) := by
  intro pins s σ H x v vl vu lo hi sl Q I rx hs pl pu h
  obtain ⟨a, xs, rfl, hx, q⟩ := h
  cases rx
  obtain ⟨its, r, ht, hz⟩ := I.list hx
  have hlen := r.length
  refine ⟨"list", _, slot_list_getitem.lookup, ht.isList.typeIs, ?_⟩
  refine wpAny_getItem_list_slice ht.isList hs pl pu .none (by simp) ?_ (by rw [List.size_toArray] <;> omega)
  rw [slicePick_cut, ← hlen]
  refine ⟨.ref s.heap.objs.size, _, I.laid (t' := s.toks) (o := .lst (cutV xs lo hi)) (fun b ob q => Heap.get?_push_of_some _ q) (Nat.le_refl _) ?_, rfl, q _ (I.hok.fresh (Nat.le_refl _))⟩
  exact ⟨Nat.le_trans (cutV_length xs lo hi) hz, _, 0, (r.drop (HT.sIx xs.length 0 lo)).take (HT.sIx xs.length xs.length hi - HT.sIx xs.length 0 lo), Heap.get?_push_size _ rfl⟩

def flatV : V → Bool
  | .non => true
  | .bl _ => true
  | .int _ => true
  | .str _ => true
  | _ => false
/-- == of flat values -/
def eqV : V → V → Bool
  | .non, .non => true
  | .bl a, .bl b => a == b
  | .bl a, .int b => (if a then 1 else 0) == b
  | .int a, .bl b => a == (if b then 1 else 0)
  | .int a, .int b => a == b
  | .str a, .str b => a == b
  | _, _ => false
theorem eqAt_V {A : Around} {s : Shared} {y x : V} {u v : Value} (ry : RelV y u) (rx : RelV x v) (fy : flatV y = true) (fx : flatV x = true) : SeqAt.EqAt A s u v (eqV y x) := by
  cases y with
  | non =>
    cases ry
    cases x with
    | non => cases rx; exact SeqAt.EqAt.same _
    | bl b => cases rx; exact SeqAt.EqAt.none_bool b
    | int b => obtain ⟨t, rfl⟩ := rx; exact SeqAt.EqAt.none_int b t
    | str b => obtain ⟨t, rfl⟩ := rx; exact SeqAt.EqAt.none_str b t
    | _ => exact absurd (show false = true from fx) Bool.false_ne_true
  | bl a =>
    cases ry
    cases x with
    | non => cases rx; exact SeqAt.EqAt.bool_none a
    | bl b => cases rx; exact SeqAt.EqAt.bool_bool a b
    | int b => obtain ⟨t, rfl⟩ := rx; exact SeqAt.EqAt.bool_int a b t
    | str b => obtain ⟨t, rfl⟩ := rx; exact SeqAt.EqAt.bool_str a b t
    | _ => exact absurd (show false = true from fx) Bool.false_ne_true
  | int a =>
    obtain ⟨t', rfl⟩ := ry
    cases x with
    | non => cases rx; exact SeqAt.EqAt.int_none a t'
    | bl b => cases rx; exact SeqAt.EqAt.int_bool a t' b
    | int b => obtain ⟨t, rfl⟩ := rx; exact SeqAt.EqAt.int_int a t' b t
    | str b => obtain ⟨t, rfl⟩ := rx; exact SeqAt.EqAt.int_str a t' b t
    | _ => exact absurd (show false = true from fx) Bool.false_ne_true
  | str a =>
    obtain ⟨t', rfl⟩ := ry
    cases x with
    | non => cases rx; exact SeqAt.EqAt.str_none a t'
    | bl b => cases rx; exact SeqAt.EqAt.str_bool a t' b
    | int b => obtain ⟨t, rfl⟩ := rx; exact SeqAt.EqAt.str_int a t' b t
    | str b => obtain ⟨t, rfl⟩ := rx; exact SeqAt.EqAt.str_str a t' b t
    | _ => exact absurd (show false = true from fx) Bool.false_ne_true
  | _ => exact absurd (show false = true from fy) Bool.false_ne_true
/-- the items' answers, read off the values (a value's own answer does not lean on its token) -/
def eqU (x : V) (u : Value) : Bool := match u with
  | .none => eqV .non x
  | .bool b => eqV (.bl b) x
  | .int i _ => eqV (.int i) x
  | .str z _ => eqV (.str z) x
  | _ => false
theorem eqU_of {x y : V} {u : Value} (r : RelV y u) (f : flatV y = true) : eqU x u = eqV y x := by
  cases y with
  | non => cases r; rfl
  | bl b => cases r; rfl
  | int i => obtain ⟨t, rfl⟩ := r; rfl
  | str z => obtain ⟨t, rfl⟩ := r; rfl
  | _ => exact absurd (show false = true from f) Bool.false_ne_true
theorem mem_eqAt {A : Around} {s : Shared} {x : V} {v : Value} (rx : RelV x v) (fx : flatV x = true) : ∀ {xs : List V} {us : List Value}, Vals xs us → xs.all flatV = true → ∀ u ∈ us, SeqAt.EqAt A s u v (eqU x u)
  | _, _, .nil, _ => fun u hu => by cases hu
  | y :: xs, u :: us, .cons r t, f => fun u' hu => by
    rw [List.all_cons, Bool.and_eq_true] at f
    rcases List.mem_cons.mp hu with rfl | hu
    · rw [eqU_of r f.1]; exact eqAt_V r rx f.1 fx
    · exact mem_eqAt rx fx t f.2 u' hu
theorem call_list_of : CallR X (.type "list") (fun xs H Q => ∃ p ys, xs = [.ref p] ∧ (SqL X.K H p ys ∨ SqT X.K H p ys) ∧ ∀ l, H l = none → Q (.ref l) (upd H l (.lst ys))) := by
  intro pins s σ H xs us Q I r h
  obtain ⟨p, ys, rfl, hq, q⟩ := h
  obtain ⟨u, rfl, rx⟩ := vals1 r
  cases rx
  have fin : ∀ (its : List Value), Vals ys its → ys.length ≤ sizeLine → ∀ (h' : Heap) (c' : Nat), (∀ b o', s.heap.get? b = some o' → h'.get? b = some o') →
      h'.get? s.heap.objs.size = some { cls := .type "list", dict := none, data := .seq its.toArray c', slots := #[] } → EP X pins σ Q (.ref s.heap.objs.size) { s with heap := h' } := fun its r' hz h' c' kp e =>
    ⟨.ref s.heap.objs.size, _, I.laid (t' := s.toks) kp (Nat.le_refl _) (show ObjOk X.prog X.w _ h' _ (.lst ys) from ⟨hz, its, c', r', e⟩), rfl, q _ (I.hok.fresh (Nat.le_refl _))⟩
  rcases hq with hq | hq
  · obtain ⟨its, r', pl, hz⟩ := I.list hq
    have hlen := r'.length
    obtain ⟨o, ho, hc, n, hd⟩ := pl.isList
    exact call_list_seq p (.inl rfl) ho hc hd (fun h' c' kp e => fin its r' hz h' c' kp e) (by simp only [List.size_toArray] <;> omega)
  · obtain ⟨its, r', pl, hz⟩ := I.tuple hq
    have hlen := r'.length
    obtain ⟨o, ho, hc, n, hd⟩ := pl
    exact call_list_seq p (.inr rfl) ho hc hd (fun h' c' kp e => fin its r' hz h' c' kp e) (by simp only [List.size_toArray] <;> omega)
theorem call_tuple_of : CallR X (.type "tuple") (fun xs H Q => ∃ p ys, xs = [.ref p] ∧ ((SqL X.K H p ys ∧ ∀ l, H l = none → Q (.ref l) (upd H l (.tup ys))) ∨ (SqT X.K H p ys ∧ Q (.ref p) H))) := by
  intro pins s σ H xs us Q I r h
  obtain ⟨p, ys, rfl, h⟩ := h
  obtain ⟨u, rfl, rx⟩ := vals1 r
  cases rx
  rcases h with ⟨hq, q⟩ | ⟨hq, q⟩
  · obtain ⟨its, r', pl, hz⟩ := I.list hq
    have hlen := r'.length
    refine call_tuple_list pl.isList (fun h' kp => ?_) (by simp only [List.size_toArray] <;> omega)
    have I1 : Inv X pins σ H { s with heap := h' } := I.kept (t' := s.toks) kp
    have I2 : Inv X pins σ (upd H h'.objs.size (.tup ys)) { s with heap := h'.push { cls := .type "tuple", data := .seq its.toArray } } :=
      I1.laid (t' := s.toks) (fun b o e => Heap.get?_push_of_some _ e) (Nat.le_refl _) (show ObjOk X.prog X.w _ _ _ (.tup ys) from ⟨hz, its, r', IsTup.new _ _⟩)
    exact ⟨.ref h'.objs.size, _, I2, rfl, q _ (I1.hok.fresh (Nat.le_refl _))⟩
  · obtain ⟨its, r', pl, hz⟩ := I.tuple hq
    exact call_tuple_same pl ⟨.ref p, H, I, rfl, q⟩

/-- the value is of that builtin type -/
def tyV (K : PySem.W.Frag) (T : String) (x : V) (H : Hp) : Prop := match x with
  | .str _ => T = "str"
  | .int _ => T = "int"
  | .ref p => (T = "list" ∧ ∃ xs, SqL K H p xs) ∨ (T = "tuple" ∧ ∃ o, K.lookup p = some o ∧ o.cls = .type "tuple" ∧ o.dict = none) ∨
      (T = "dict" ∧ ((∃ kvs, H p = some (.dK kvs)) ∨ ∃ kvs, H p = some (.dT kvs))) ∨ (T = "set" ∧ ∃ S n, H p = some (.set S n))
  | _ => False
theorem tyV_is {pins : List (Addr × Obj)} {σ : St} {H : Hp} {s : Shared} {T : String} {x : V} {v : Value} (I : Inv X pins σ H s) (r : RelV x v) (ty : tyV X.K T x H) :
    s.TypeIs v T ∧ ∀ a, v = .ref a → ∃ ob, s.heap.get? a = some ob ∧ ob.dict = none := by
  cases x with
  | str z =>
    obtain ⟨t, rfl⟩ := r
    cases (show T = "str" from ty)
    exact ⟨typeIs_str s z t, fun _ e => nomatch e⟩
  | int i =>
    obtain ⟨t, rfl⟩ := r
    cases (show T = "int" from ty)
    exact ⟨typeIs_int s i t, fun _ e => nomatch e⟩
  | ref p =>
    cases r
    rcases ty with ⟨rfl, xs, hq⟩ | ⟨rfl, o, hk, hc, hd⟩ | ⟨rfl, hk⟩ | ⟨rfl, S, n, hk⟩
    · obtain ⟨its, _, pl, _⟩ := I.list hq
      refine ⟨pl.isList.typeIs, fun a e => ?_⟩
      cases e
      obtain ⟨o, n, e, c, hd, _⟩ := pl
      exact ⟨o, e, hd⟩
    · refine ⟨⟨o, I.kIn p o hk, hc⟩, fun a e => ?_⟩
      cases e
      exact ⟨o, I.kIn _ o hk, hd⟩
    · have z : ∃ o, s.heap.get? p = some o ∧ o.ExactDict := by
        rcases hk with ⟨kvs, hk⟩ | ⟨kvs, hk⟩
        · obtain ⟨_, _, _, _, o, _, _, e, ex, _⟩ := I.hok p _ hk
          exact ⟨o, e, ex⟩
        · obtain ⟨_, _, _, _, o, _, _, e, ex, _⟩ := I.hok p _ hk
          exact ⟨o, e, ex⟩
      obtain ⟨o, e, ex⟩ := z
      refine ⟨⟨o, e, ex.1⟩, fun a e2 => ?_⟩
      cases e2
      exact ⟨o, e, ex.2.1⟩
    · obtain ⟨o, _, _, _, e, ex, _⟩ := I.hok p _ hk
      refine ⟨⟨o, e, ex.1⟩, fun a e2 => ?_⟩
      cases e2
      exact ⟨o, e, ex.2.1⟩
  | _ => exact False.elim ty
def tBM (K : PySem.W.Frag) (T : String) (r : V → List V → Hp → VK → Prop) (to : TE) (t : TA) : TE := fun σ H Q => to σ H fun x H1 => tyV K T x H1 ∧ t σ H1 fun xs H2 => r x xs H2 Q
variable {o e : Expr} {es : List Expr} {to : TE} {t : TA} {name : Str} {apos cpos : Pos} {T id : String} {r : V → List V → Hp → VK → Prop}
theorem pe_bm (pa : PlainAttrs T) (slot : Slot T name id) (hty : typeOf (.builtin id) = pure (.type "method_descriptor")) (hm : MtR X id r) (ho : PE X o to) (ha : PA X (e :: es) t)
    (hbase : attributeBase o name X.env (eval o X.env) = eval o X.env := by rfl)
    (hfew : ((backTo cpos (starEach (e :: es) X.env)).all (fun x => !x.1) && (backToKw cpos (keywordEach [] X.env)).all (fun x => x.1.isSome)
      && decide ((e :: es).length + ([] : List Keyword).length + (if ([] : List Keyword).isEmpty then 0 else 1) < 30)) = true := by rfl)
    (hline : (apos.endLine == cpos.line) = true := by rfl) (hs : starEach (e :: es) X.env = (false, eval e X.env) :: starEach es X.env := by rfl) (hplain : (backTo cpos (starEach es X.env)).any (·.1) = false := by rfl) :
    PE X (.Call (.Attribute o name apos) (e :: es) [] cpos) (tBM X.K T r to t) := by
  intro pins s σ H Q I h
  refine wpAny_Call_method_late hbase hfew hline rfl (thn (ho pins s σ H _ I h) fun v s1 ⟨x, H1, I1, r1, ty, q1⟩ => ?_)
  obtain ⟨h1, h2⟩ := tyV_is I1 r1 ty
  refine ⟨T, id, pa, slot, hty, h1, h2, ?_⟩
  have hA := ha cpos pins s1 σ H1 _ I1 q1
  rw [hs] at hA ⊢
  refine Calls.callWith_builtin (by show (false || (backTo cpos (starEach es X.env)).any (·.1)) = false; rw [hplain] <;> rfl) (Calls.evalArgs_plain ?_)
  exact thn hA fun us s2 ⟨vs, H2, I2, r2, q2⟩ => hm pins s2 σ H2 x vs v us Q I2 r1 r2 q2
end
end L2

namespace L2
open PySem PySem.Spec PyProof.Rows

def MtM (X : Cx) (id : String) (r : V → List V → Hp → VK → Prop) : Prop :=
  ∀ (pins : List (Addr × Obj)) (s : Shared) (σ : St) (H : Hp) (x : V) (xs : List V) (v : Value) (us : List Value) (Q : VK), Inv X pins σ H s → RelV x v → Vals xs us → r x xs H Q →
    wpAny (model X.prog X.w) X.A (call (.builtin id) (v :: us)) (EP X pins σ Q) X.xe s

theorem Vals.one : ∀ {x : V} {us : List Value}, Vals [x] us → ∃ u, us = [u] ∧ RelV x u
  | _, _, .cons r .nil => ⟨_, rfl, r⟩
theorem Vals.eraseIdx : ∀ {xs : List V} {us : List Value} (i : Nat), Vals xs us → Vals (xs.eraseIdx i) (us.eraseIdx i)
  | _, _, _, .nil => .nil
  | _, _, 0, .cons _ t => t
  | _, _, i + 1, .cons r t => .cons r (Vals.eraseIdx i t)
theorem Vals.reverse {xs : List V} {us : List Value} (h : Vals xs us) : Vals xs.reverse us.reverse := by
  induction h with
  | nil => exact .nil
  | cons r t ih => rw [List.reverse_cons, List.reverse_cons]; exact Vals.append ih (.cons r .nil)
theorem Vals.rep {xs : List V} {us : List Value} (h : Vals xs us) : ∀ k : Nat, Vals (List.replicate k xs).flatten (List.replicate k us).flatten
  | 0 => .nil
  | k + 1 => by
    rw [List.replicate_succ, List.replicate_succ, List.flatten_cons, List.flatten_cons]
    exact Vals.append h (Vals.rep h k)
theorem len_erase {α : Type} : ∀ (l : List α) (i : Nat), (l.eraseIdx i).length ≤ l.length
  | [], _ => Nat.le_refl _
  | _ :: _, 0 => Nat.le_succ _
  | _ :: r, i + 1 => Nat.succ_le_succ (len_erase r i)
theorem foldl_rep (its : List Value) : ∀ (k : Nat) (acc : List Value),
    List.foldl (fun x1 x2 => x1 ++ x2) acc.toArray (List.replicate k its.toArray) = (acc ++ (List.replicate k its).flatten).toArray
  | 0, acc => by simp
  | k + 1, acc => by
    have e : acc.toArray ++ its.toArray = (acc ++ its).toArray := by simp
    have e2 : (acc ++ its) ++ (List.replicate k its).flatten = acc ++ (List.replicate (k + 1) its).flatten := by
      rw [List.replicate_succ, List.flatten_cons, List.append_assoc]
    rw [← e2, ← foldl_rep its k (acc ++ its), ← e, List.replicate_succ, List.foldl_cons]

section
variable {X : Cx} {pins : List (Addr × Obj)} {σ : St} {H : Hp} {s : Shared} {l b : Addr} {xs ys zs : List V}

theorem Inv.lset {its its' : List Value} {n : Nat} {f : Array Value → Array Value} {t' : Nat} (I : Inv X pins σ H s) (hH : H l = some (.lst xs))
    (e : s.heap.get? l = some { cls := .type "list", data := .seq its.toArray n }) (hf : f its.toArray = its'.toArray) (hv : Vals ys its') (hz : ys.length ≤ sizeLine) :
    Inv X pins σ (upd H l (.lst ys)) { s with heap := s.heap.update l (Obj.mapSeq f), toks := t' } := by
  have q := PySem.IsL.update e f
  rw [hf] at q
  refine I.write (x := l) (e := l) (by rw [hH]; exact trivial) (.inl rfl) (fun b' u hb hu => (Heap.get?_update_other s.heap (Obj.mapSeq f) (Ne.symm hb)).trans hu) ⟨_, q⟩ ?_
  exact ⟨hz, its', _, hv, q⟩
theorem Inv.lnew {its : List Value} {t' : Nat} (I : Inv X pins σ H s) (hv : Vals ys its) (hz : ys.length ≤ sizeLine) :
    Inv X pins σ (upd H s.heap.objs.size (.lst ys)) { s with heap := s.heap.push { cls := .type "list", data := .seq its.toArray }, toks := t' } :=
  I.laid (fun _ _ q => Heap.get?_push_of_some _ q) (Nat.le_refl _) ⟨hz, its, 0, hv, Heap.get?_push_size _ rfl⟩
theorem Inv.fresh (I : Inv X pins σ H s) : H s.heap.objs.size = none := I.hok.fresh (Nat.le_refl _)
theorem Inv.lstM (I : Inv X pins σ H s) (hH : H l = some (.lst xs)) : xs.length ≤ sizeLine ∧ ∃ (its : List Value) (n : Nat), Vals xs its ∧ xs.length = its.length ∧ s.heap.get? l = some { cls := .type "list", data := .seq its.toArray n } := by
  obtain ⟨z, its, n, r, e⟩ := I.hok l _ hH
  exact ⟨z, its, n, r, r.length, e⟩

theorem notLongL {n : Nat} (h : n ≤ sizeLine) : Builtin.List.listTooLong n = false := by
  unfold Builtin.List.listTooLong
  exact decide_eq_false (by omega)
end

section
variable {X : Cx}

def rAppend : V → List V → Hp → VK → Prop := fun x vs H Q => ∃ l xs y, x = .ref l ∧ vs = [y] ∧ H l = some (.lst xs) ∧ xs.length < sizeLine ∧ Q .non (upd H l (.lst (xs ++ [y])))
theorem mt_append : MtM X "list.append" rAppend := by
  intro pins s σ H x vs v us Q I rx rv h
  obtain ⟨l, xs, y, rfl, rfl, hH, hz, q⟩ := h
  cases rx
  obtain ⟨u, rfl, ru⟩ := rv.one
  obtain ⟨z, its, n, r, hl, e⟩ := I.lstM hH
  refine call_meets F.slot_list_append ⟨_, e, rfl⟩ F.entry_list_append (F.args_list_append_2 _ _) (PySem.list_append l its.toArray n u (by rw [List.size_toArray]; omega)) ⟨e, ?_⟩
  refine ⟨.non, _, I.lset (its' := its ++ [u]) hH e (by simp) (r.append (.cons ru .nil)) ?_, rfl, q⟩
  rw [List.length_append, List.length_singleton]
  omega

def rExtend : V → List V → Hp → VK → Prop := fun x vs H Q => ∃ l b xs zs, x = .ref l ∧ vs = [.ref b] ∧ H l = some (.lst xs) ∧ H b = some (.lst zs) ∧ xs.length + zs.length ≤ sizeLine ∧ Q .non (upd H l (.lst (xs ++ zs)))
theorem mt_extend : MtM X "list.extend" rExtend := by
  intro pins s σ H x vs v us Q I rx rv h
  obtain ⟨l, b, xs, zs, rfl, rfl, hH, hB, hz, q⟩ := h
  cases rx
  obtain ⟨u, rfl, ru⟩ := rv.one
  cases ru
  obtain ⟨z, its, n, r, hl, e⟩ := I.lstM hH
  obtain ⟨z2, its2, n2, r2, hl2, e2⟩ := I.lstM hB
  have hsz : its.toArray.size + its2.toArray.size ≤ sizeLine := by rw [List.size_toArray, List.size_toArray]; omega
  have hlong : ¬ (!its.toArray.isEmpty && Builtin.List.listTooLong (its.toArray.size + its2.toArray.size)) = true := by
    rw [notLongL hsz, Bool.and_false]
    exact Bool.false_ne_true
  refine call_meets F.slot_list_extend ⟨_, e, rfl⟩ F.entry_list_extend (F.args_list_extend_2 _ _)
    (AutoSeq1.list_extend_list_list_0 l its.toArray n b its2.toArray n2 hlong (by rw [List.size_toArray]; omega) (by omega)) ⟨e, e2, ?_⟩
  refine ⟨.non, _, I.lset (its' := its ++ its2) hH e (by simp) (r.append r2) ?_, rfl, q⟩
  rw [List.length_append]
  omega

def rPopAt : V → List V → Hp → VK → Prop := fun x vs H Q => ∃ l xs i k y, x = .ref l ∧ vs = [.int i] ∧ H l = some (.lst xs) ∧ -(2 ^ 63) ≤ i ∧ i < 2 ^ 63 ∧ seqIndex? i xs.length = some k ∧ xs[k]? = some y ∧ Q y (upd H l (.lst (xs.eraseIdx k)))
theorem mt_popAt : MtM X "list.pop" rPopAt := by
  intro pins s σ H x vs v us Q I rx rv h
  obtain ⟨l, xs, i, k, y, rfl, rfl, hH, h1, h2, hk, hy, q⟩ := h
  cases rx
  obtain ⟨u, rfl, ru⟩ := rv.one
  obtain ⟨t, rfl⟩ := ru
  obtain ⟨z, its, n, r, hl, e⟩ := I.lstM hH
  obtain ⟨w, hw, rw'⟩ := r.get hy
  refine call_meets F.slot_list_pop ⟨_, e, rfl⟩ F.entry_list_pop (F.args_list_pop_2 _ _)
    (MeetsSeq.list_pop_at l its.toArray n i t k w (fitsIndex_both h1 h2) (by rw [List.size_toArray, ← hl]; exact hk) (by rw [← Array.getElem?_toList]; exact hw) (by rw [List.size_toArray]; omega)) ⟨e, ?_⟩
  refine ⟨y, _, I.lset (its' := its.eraseIdx k) hH e ?_ (r.eraseIdx k) ?_, rw', q⟩
  · show its.toArray.eraseIdxIfInBounds k = (its.eraseIdx k).toArray
    rw [List.eraseIdxIfInBounds_toArray]
  · have := len_erase xs k
    omega

def rCat : R2 := fun x y H Q => ∃ l b xs zs, x = .ref l ∧ y = .ref b ∧ H l = some (.lst xs) ∧ H b = some (.lst zs) ∧ xs.length + zs.length ≤ sizeLine ∧ ∀ p, H p = none → Q (.ref p) (upd H p (.lst (xs ++ zs)))
theorem op_cat : OpR X (binaryOp .Add) rCat := by
  intro pins s σ H x y v u Q I rx ry h
  obtain ⟨l, b, xs, zs, rfl, rfl, hH, hB, hz, q⟩ := h
  cases rx
  cases ry
  obtain ⟨z, its, n, r, hl, e⟩ := I.lstM hH
  obtain ⟨z2, its2, n2, r2, hl2, e2⟩ := I.lstM hB
  refine PySem.P.add_list e e2 ?_ (by rw [List.size_toArray, List.size_toArray]; omega)
  have ea : its.toArray ++ its2.toArray = (its ++ its2).toArray := by simp
  rw [ea]
  exact ⟨.ref _, _, I.lnew (t' := s.toks) (r.append r2) (by rw [List.length_append]; omega), rfl, q _ I.fresh⟩
/-- a list times an int (a negative one is nothing) -/
def rRep : R2 := fun x y H Q => ∃ l k xs, x = .ref l ∧ y = .int k ∧ H l = some (.lst xs) ∧ -(2 ^ 63) ≤ k ∧ k < 2 ^ 63 ∧ xs.length * k.toNat ≤ sizeLine ∧
  ∀ p, H p = none → Q (.ref p) (upd H p (.lst (List.replicate k.toNat xs).flatten))
theorem len_rep {α : Type} (xs : List α) (k : Nat) : (List.replicate k xs).flatten.length = k * xs.length := by
  induction k with
  | zero => simp
  | succ k ih => rw [List.replicate_succ, List.flatten_cons, List.length_append, ih, Nat.succ_mul, Nat.add_comm]
theorem op_rep : OpR X (binaryOp .Mult) rRep := by
  intro pins s σ H x y v u Q I rx ry h
  obtain ⟨l, k, xs, rfl, rfl, hH, h1, h2, hz, q⟩ := h
  cases rx
  obtain ⟨t, rfl⟩ := ry
  obtain ⟨z, its, n, r, hl, e⟩ := I.lstM hH
  have hlen : its.toArray.size * k.toNat ≤ sizeLine := by rw [List.size_toArray, ← hl]; exact hz
  have hcap : ¬ its.toArray.size * k.toNat > (2 ^ 63 - 1) / 8 := by
    have : (sizeLine : Nat) ≤ (2 ^ 63 - 1) / 8 := by decide
    omega
  have hfit : ¬ (!Builtin.List.listFitsIndex k) = true := by
    rw [fitsIndex_both h1 h2]
    exact Bool.false_ne_true
  have hlong : ¬ Builtin.List.listTooLong (its.toArray.size * k.toNat) = true := by
    rw [notLongL hlen]
    exact Bool.false_ne_true
  have hnew : List.foldl (fun x1 x2 => x1 ++ x2) #[] (List.replicate (if its.toArray.isEmpty = true then 0 else k.toNat) its.toArray) = (List.replicate k.toNat its).flatten.toArray := by
    have f0 : ∀ m : Nat, List.foldl (fun x1 x2 => x1 ++ x2) #[] (List.replicate m its.toArray) = (List.replicate m its).flatten.toArray := fun m => by
      have := foldl_rep its m []
      rw [List.nil_append] at this
      exact this
    rw [f0]
    cases its with
    | nil => simp
    | cons a r' => rw [if_neg (by simp)]
  refine wpAny_binaryOp_repeat_ref (T := "list") (U := "int") (by decide) ⟨_, e, rfl⟩ (fun s' => typeIs_int s' k t) noFill_list_mul F.fills_int_mul F.slot_int_rmul repeat_list F.slot_int_index.lookup
    (call_meets F.slot_int_rmul (typeIs_int s k t) F.entry_int_rmul (F.args_int_rmul_2 _ _) (int___rmul___int_list k t l its.toArray n)
      ⟨e, rfl, ⟨_, e, rfl⟩, call_meets F.slot_list_mul ⟨_, e, rfl⟩ F.entry_list_mul (F.args_list_mul_2 _ _) (AutoListH.list___mul___list_int_3 l its.toArray n k t hfit hcap hlong) ⟨e, ?_⟩⟩)
  rw [hnew]
  exact ⟨.ref _, _, I.lnew (t' := s.toks) (r.rep k.toNat) (by rw [len_rep, Nat.mul_comm]; exact hz), rfl, q _ I.fresh⟩

end

section
variable {prog : Program} {w : World} {A : Around} {E : Value → Shared → Prop} {s : Shared}
end

section
variable {X : Cx}
end
end L2

namespace Att
open PySem PySem.W PySem.Calls PyProof.Rows

theorem ints_of_wellAll {P : Params} {h : Heap} : ∀ (ns : List Int) (vs : List Value), WellAll P h vs (ns.map WData.int) → IntsAre vs ns := by
  intro ns
  induction ns with
  | nil =>
    intro vs w
    rw [List.map_nil] at w
    cases w
    exact .nil
  | cons n ns ih =>
    intro vs w
    rw [List.map_cons] at w
    cases w with
    | cons a b =>
      cases a
      exact .cons _ _ (ih _ b)

theorem script_of {l : OpenLaw} {n : Nat} (hn : l.most = some n) {P : Params} {h : Heap} {args : List WData} {vals : List Value}
    (hpre : l.row.toRowW.claim.pre args = true) (hwl : WellAll P h vals args) :
    ∃ a vs ns, vals = [Value.ref a] ∧ args = [WData.list (ns.map WData.int)] ∧ h.get? a = some { cls := .type "list", data := .seq vs.toArray } ∧ IntsAre vs ns ∧ ns.length ≤ n := by
  have hsh : WShape.hasAll [] args [.list .int] = true := (pre_splitW hpre).1
  have hc : l.pre.holds [] { args := args } = true := (pre_splitW hpre).2
  obtain ⟨d, r, rfl, h1, h2⟩ := hasAllW_cons hsh
  obtain rfl := hasAllW_nil h2
  obtain ⟨xs, rfl, h3⟩ := hasW_list h1
  obtain ⟨ns, rfl⟩ := items_int h3
  have hlen : ns.length ≤ n := by
    unfold OpenLaw.pre at hc
    have h4 : (WTm.not (.lt (.lit (.int (n : Int))) (.len (.arg 0)))).holds [] { args := [.list (ns.map .int)] } = true := by
      have h4 := (holds_andW hc).1
      rw [hn] at h4
      exact h4
    have h5 := condW_of h4 (w_not (w_lt w_lit (w_len_list (w_arg rfl))))
    rw [List.length_map] at h5
    refine Nat.le_of_not_lt fun q => ?_
    have q' : (n : Int) < ((ns.length : Nat) : Int) := by omega
    first
      | (rw [decide_eq_true q'] at h5; exact absurd h5 (by decide))
      | (simp at h5; omega)
  cases hwl with
  | cons w1 w2 =>
    cases w2
    cases w1 with
    | list ho hall => exact ⟨_, _, ns, rfl, rfl, ho, ints_of_wellAll ns _ hall, hlen⟩

theorem post_true (l : OpenLaw) (args : List WData) : l.row.toRowW.claim.post args (.bool true) args = true :=
  postW_of (r := l.row.toRowW) (X := (true == true))
    (show WShape.has [] (.bool true) .bool = true by first | rfl | decide | simp [WShape.has, WShape.arms, WShape.armsAll])
    (show (WTm.eq .res (.lit (.bool true))).value [] { args := args, res := some (.bool true), after := args } = some (.bool (true == true)) from w_eq_bool (w_res rfl) w_lit) rfl

/-- the same from a codeAny of the CALL (for a layer whose function contracts speak of calls) -/
theorem attach_call {l : OpenLaw} {n : Nat} {q : Program} {loose : List Str} {XP : (Str → Option Value) → Heap → Prop} {YP : World → Heap → Prop} {d : DefRec}
    (hn : l.most = some n) (hdf : d.params.defaults = [])
    (call : ∀ (w : World) (s₀ s₁ : Shared) (mg mb : Str → Option Value) (fa : Addr) (o : Obj) (pm cd doc : Value) (a : Addr) (vs : List Value) (ns : List Int),
      Ground q loose [] XP w s₀ mg mb s₁.heap → YP w s₁.heap →
      s₁.heap.get? fa = some o → o.data = .func (docDef d.name d.params d.body d.scope pm cd doc) → s₁.heap.CodeRec cd d.name → mg d.name = some (.ref fa) →
      s₁.heap.get? a = some { cls := .type "list", data := .seq vs.toArray } → IntsAre vs ns → ns.length ≤ n → s₁.gens = #[] →
      codeAny (model l.prog w) callerA (.call (.ref fa) ⟨[.ref a], []⟩) (fun r s' => r = .ok (.ret (.bool true)) ∧ OldK s₁.heap s'.heap ∧ s'.os = s₁.os ∧ AllBare s'.gens) s₁) :
    WalkO q loose XP YP l.row.toRowW d [] (fun f vs => PySem.call f vs) := by
  intro w s₀ s₁ mg mb G Y fa o pm cd doc dV kV ho hd hcd hD hmg hg args vals as hpre hlay hrd hwl hlo
  obtain rfl : dV = .none := Dflts.none hD hdf
  obtain rfl : kV = .none := Dflts.noKw hD
  obtain ⟨a, vs, ns, rfl, rfl, hobj, hints, hlen⟩ := script_of hn hpre hwl
  refine enter_call (codeAny_mono (call w s₀ s₁ mg mb fa o pm cd doc a vs ns G Y ho (fd_plain hd) hcd hmg hobj hints hlen hg) fun r s' hq => ?_)
  obtain ⟨rfl, h2, h3, h4⟩ := hq
  exact ⟨.inl ⟨.bool true, .bool true, [], rfl, fun _ => rfl, .bool true, post_true l _, fun _ => ⟨List.Pairwise.nil, fun _ hm => (nomatch hm)⟩⟩, h2, h3, h4⟩

section
variable {prog : Program} {w : World} {A : Around} {E : Value → Shared → Prop} {s : Shared} {K : Frag}

end
end Att

namespace L2
open PySem PySem.Spec PyProof.Rows

theorem vals_ints : ∀ {vs : List Value} {ns : List Int}, IntsAre vs ns → Vals (ns.map V.int) vs
  | _, _, .nil => .nil
  | _, _, .cons n t h => .cons ⟨t, rfl⟩ (vals_ints h)

/-- nothing is tracked but the script, known to the object (or it is an object of the module) -/
def Only (H : Hp) : Prop := ∀ b, H b = none ∨ ∃ o xs, H b = some (.frz o (.lst xs))

/-- THE HEAD: the law's promise, at the heap behind the top. F, the promise of the law's def, may use that base is part of the heap (so K.In base, base.Ns mainGlobals mg stand in Mod) -/
theorem law_call {P : Program} {w : World} {K : PySem.W.Frag} {mg mb : Str → Option Value} {CX : CXT} {k : Nat} {fa a : Addr} {fd : FuncData} {x : Str} {sp : Sp} {s₁ : Shared} {vs : List Value} {ns : List Int}
    (KX : K.In s₁.heap) (hns : s₁.heap.Ns mainGlobals mg) (hb : s₁.heap.Ns builtinsNs mb) (hbb : ∀ x : Str, x ≠ "__name__" → mb x = bootBuiltins x) (hlim : s₁.heap.NoLimit) (hg : s₁.gens = #[])
    (ha : s₁.heap.get? a = some { cls := .type "list", data := .seq vs.toArray }) (hi : IntsAre vs ns) (hl : ns.length ≤ sizeLine) (hr : Room k callerA)
    (F : ∀ base : Heap, K.In base → base.Ns mainGlobals mg → FnOk P w K mg base CX k fa fd [x] sp) (hbind : ∀ (s : Shared) (u : Value), BindsTo s fd ⟨[u], []⟩ [(x, u)])
    (hsp : ∀ H : Hp, Only H → SqL K H a (ns.map V.int) → sp [.ref a] H (fun v _ => v = .bl true) fun _ _ _ => False)
    (hCX : ∀ H e s', CX [] H s₁ (fun _ _ _ => False) e s' → False) :
    codeAny (model P w) callerA (.call (.ref fa) ⟨[.ref a], []⟩) (fun r s' => r = .ok (.ret (.bool true)) ∧ OldK s₁.heap s'.heap ∧ s'.os = s₁.os ∧ AllBare s'.gens) s₁ := by
  have rv := vals_ints hi
  have lenV := hi.length
  -- from an abstract heap in which nothing but the script may be tracked
  have core : ∀ H : Hp, Only H → SqL K H a (ns.map V.int) → HOk P w H s₁.heap → (∀ b, H b ≠ none → b = a) → (H a ≠ none → K.lookup a = none) →
      codeAny (model P w) callerA (.call (.ref fa) ⟨[.ref a], []⟩) (fun r s' => r = .ok (.ret (.bool true)) ∧ OldK s₁.heap s'.heap ∧ s'.os = s₁.os ∧ AllBare s'.gens) s₁ := by
    intro H hO hS hok hA hK
    have base_of : ∀ {b : Addr} {o : Obj}, s₁.heap.get? b = some o → H b = none → (hidT s₁.heap H).get? b = some o := fun e n => hidT_get e n
    have noA : ∀ {b : Addr} {o : Obj} {es : Array DictEntry} {ep : Nat}, s₁.heap.get? b = some o → o.data = .dict es ep → H b = none := fun {b o es ep} e d => by
      cases q : H b with
      | none => rfl
      | some u =>
        have e' : b = a := hA b (by rw [q]; simp)
        subst e'
        rw [ha] at e; cases e
        have d' : Data.seq vs.toArray _ = Data.dict es ep := d
        cases d'
    have nsK : ∀ {b : Addr} {m : Str → Option Value}, s₁.heap.Ns b m → (hidT s₁.heap H).Ns b m := fun {b m} ⟨o, es, ep, e, d, r⟩ => ⟨o, es, ep, base_of e (noA e d), d, r⟩
    have hKb : K.In (hidT s₁.heap H) := fun b o e => base_of (KX b o e) (by
      cases q : H b with
      | none => rfl
      | some u =>
        have e' : b = a := hA b (by rw [q]; simp)
        subst e'
        rw [hK (by rw [q]; simp)] at e; cases e)
    have hM : Mod K mg (hidT s₁.heap H) := ⟨hKb, nsK hns, ⟨mb, nsK hb, hbb⟩, let ⟨mc, h1, h2⟩ := hlim; ⟨mc, nsK h1, h2⟩⟩
    have e0 : Env0 P w K mg (hidT s₁.heap H) callerA [] s₁ H := ⟨rfl, hM, fun b o e => of_hidT e, Nat.le_of_eq (hidT_size _ _), trivial, fun b hb => absurd (show b ∈ ([] : List Addr) from hb) (by simp), hok, .of_eq hg⟩
    refine codeAny_mono ((F _ hKb (nsK hns)).run callerA [] s₁ H ⟨[.ref a], []⟩ [.ref a] [.ref a] _ _ hr e0 (hbind s₁ (.ref a)) (.cons rfl .nil) (hsp H hO hS)) fun r s' h => ?_
    cases r with
    | error e => exact (hCX H e s' h).elim
    | ok fl =>
      cases fl with
      | next => exact False.elim h
      | brk => exact False.elim h
      | cont => exact False.elim h
      | ret u =>
        obtain ⟨v, H', os, bare, un, hok', r', q⟩ := h
        have q' : v = .bl true := q
        subst q'
        obtain rfl : u = Value.bool true := r'
        refine ⟨rfl, OldK.of_keep fun b o e => ?_, os, bare⟩
        cases q : H b with
        | none => exact un.keep b o e q (by intro z; exact absurd (show b ∈ ([] : List Addr) from z) (by simp)) (by simp)
        | some u =>
          rcases hO b with z | ⟨ob, xs, z⟩
          · rw [q] at z; cases z
          · have z2 := un.frzs b ob _ z
            obtain ⟨e1, _⟩ := hok b _ z
            obtain ⟨e2, _⟩ := hok' b _ z2
            rw [e] at e1; cases e1
            exact e2
  cases hk : K.lookup a with
  | some o =>
    -- the script is one of the module's own objects
    have e := KX a o hk
    rw [ha] at e
    cases e
    refine core (fun _ => none) (fun _ => .inl rfl) (.inr ⟨_, vs.toArray, _, hk, rfl, rfl, rfl, by rw [List.size_toArray, lenV]; exact hl, by simpa using rv⟩) (fun b u z => by have z' : (none : Option HO) = some u := z; cases z') (fun b z => absurd rfl z) fun z => absurd rfl z
  | none =>
    refine core (fun b => if b = a then some (.frz { cls := .type "list", data := .seq vs.toArray } (.lst (ns.map V.int))) else none) (fun b => ?_) (.inl (.inr ⟨{ cls := .type "list", data := .seq vs.toArray }, if_pos rfl⟩)) (fun b u z => ?_) (fun b z => ?_) fun _ => hk
    · by_cases hb : b = a
      · exact .inr ⟨_, _, if_pos hb⟩
      · exact .inl (if_neg hb)
    · by_cases hb : b = a
      · have z' := (if_pos hb).symm.trans z
        cases z'
        subst hb
        exact ⟨ha, by rw [List.length_map]; exact hl, vs, _, rv, ha⟩
      · have z' := (if_neg hb).symm.trans z
        cases z'
    · by_cases hb : b = a
      · exact hb
      · exact absurd (if_neg hb) z
end L2

namespace L2
open PySem PySem.Spec PyProof.Rows

/-- the goal that k_head leaves (case hc), from the law's promise. F gives the function object fd (K's own) once, then the promise over every base -/
theorem walk_of {l : PySem.W.OpenLaw} {n k : Nat} {q : Program} {loose : List Str} {XP : (Str → Option Value) → Heap → Prop} {YP : World → Heap → Prop} {d : DefRec} {K : Params → PySem.W.Frag} {CX : World → CXT} {sp : World → Sp} {x : Str}
    (hn : l.most = some n) (hn2 : n ≤ sizeLine) (hdf : d.params.defaults = []) (hr : Room k callerA)
    (hY : ∀ (w : World) (h : Heap), YP w h → (K w.params).In h)
    (F : ∀ (w : World) (mg : Str → Option Value) (fa : Addr) (h : Heap), (K w.params).In h → h.Ns mainGlobals mg → mg d.name = some (.ref fa) →
      ∃ fd : FuncData, (∀ (s : Shared) (u : Value), BindsTo s fd ⟨[u], []⟩ [(x, u)]) ∧
        ∀ base : Heap, (K w.params).In base → base.Ns mainGlobals mg → FnOk l.prog w (K w.params) mg base (CX w) k fa fd [x] (sp w))
    (hsp : ∀ (w : World) (H : Hp) (a : Addr) (ns : List Int), ns.length ≤ n → Only H → SqL (K w.params) H a (ns.map V.int) → sp w [.ref a] H (fun v _ => v = .bl true) fun _ _ _ => False)
    (hCX : ∀ (w : World) (H : Hp) (s : Shared) (e : Value) (s' : Shared), CX w [] H s (fun _ _ _ => False) e s' → False) :
    PySem.W.WalkO q loose XP YP l.row.toRowW d [] (fun f vs => PySem.call f vs) := by
  refine Att.attach_call hn hdf fun w s₀ s₁ mg mb fa o pm cd doc a vs ns G Y ho hd hcd hmg hobj hints hlen hg => ?_
  have KX := hY w _ Y
  obtain ⟨fd, hb, hF⟩ := F w mg fa _ KX G.T.g hmg
  exact law_call KX G.T.g G.T.b G.T.builtins G.T.nolimit hg hobj hints (Nat.le_trans hlen hn2) hr hF hb (fun H hO hS => hsp w H a ns hlen hO hS) fun H e s' => hCX w H s₁ e s'
end L2


namespace L2
open PySem PySem.Spec PyProof.Rows

def defArgs (s : Stmt) : Arguments := match s with
  | .FunctionDef _ a _ _ _ _ _ _ _ _ => a
  | _ => { posonlyargs := [], args := [], vararg := none, kwonlyargs := [], kw_defaults := [], kwarg := none, defaults := [] }
def defBody (s : Stmt) : List Stmt := match s with
  | .FunctionDef _ _ b _ _ _ _ _ _ _ => b
  | _ => []
def defScope (s : Stmt) : Scope := match s with
  | .FunctionDef _ _ _ _ _ _ sc _ _ _ => sc
  | _ => { kind := .function, names := [], isGenerator := false, isCoroutine := false }

abbrev CX0 : CXT := fun _ _ _ _ _ _ => False
abbrev E0 : XK := fun _ _ _ => False
theorem pass0 {X : Cx} : Passes CX0 X E0 := fun _ _ _ _ _ _ _ h => h.elim

structure Fun (K : PySem.W.Frag) (x qual : Str) (st : Stmt) (f : Addr) (fd : FuncData) : Prop where
  ex : ∃ (oc : Value) (od : Option Addr) (kV doc pm : Value) (an : Option Addr) (cdv ct : Value) (osl : Array (Option Value)),
    fd = PySem.W.fnOf x qual (defArgs st) (defBody st) (defScope st) .none kV doc pm an cdv ct ∧ K.lookup f = some ⟨oc, od, .func fd, osl⟩ ∧ PySem.W.codeIn K cdv qual = true
  kp : PySem.W.keepIn K (.ref f) = true
section
variable {P : Program} {w : World} {K : PySem.W.Frag} {mg : Str → Option Value} {base : Heap}
/-- THE RULE for a def: its body as a term of rules, and the reading of that term -/
theorem Fun.ok {x qual : Str} {st : Stmt} {f : Addr} {fd : FuncData} {N ps : List Str} {k : Nat} {sp : Sp} (F : Fun K x qual st f fd) (S : FnScope N ps (defScope st)) (len : ∀ vs H Q E, sp vs H Q E → vs.length = ps.length)
    (hbody : ∀ (cdv : Value) (A : Around) (outer : List Env) (s : Shared) (H : Hp) (vs : List V) (Q : VK) (E : XK), Room k (A.deeper (envOfC qual (defScope st) s.heap.objs.size f cdv)) → sp vs H Q E →
      ∃ t, PSs (cxOf CX0 P w K mg base N qual (defScope st) f cdv A outer s H E).nox (defBody st) t ∧ t { nx := fun _ H' => Q .non H', rt := Q } (start N vs) H) : FnOk P w K mg base CX0 (k + 1) f fd ps sp := by
  obtain ⟨oc, od, kV, doc, pm, an, cdv, ct, osl, rfl, lk, hcd⟩ := F.ex
  refine fn_of lk hcd S len fun A outer s H vs Q E hr hsp => ?_
  obtain ⟨t, h, q⟩ := hbody cdv A outer s H vs Q E hr hsp
  exact ⟨t, h.nox, q⟩
/-- how its arguments bind (no defaults): h is «fun _ _ _ _ _ _ us hl => match us, hl with | [_, _], _ => rfl», one _ a parameter -/
theorem Fun.binds {x qual : Str} {st : Stmt} {f : Addr} {fd : FuncData} {ps : List Str} (F : Fun K x qual st f fd)
    (h : ∀ (kV doc pm : Value) (an : Option Addr) (cdv ct : Value) (us : List Value), us.length = ps.length → bindArgs (PySem.W.fnOf x qual (defArgs st) (defBody st) (defScope st) .none kV doc pm an cdv ct) ⟨us, []⟩ = pure (ps.zip us)) : Binds K fd ps [] := by
  obtain ⟨oc, od, kV, doc, pm, an, cdv, ct, osl, rfl, lk, hcd⟩ := F.ex
  exact .all (h kV doc pm an cdv ct)
theorem fun_mk {x qual : Str} {st : Stmt} {f : Addr} {oc : Value} {od an : Option Addr} {osl : Array (Option Value)} {kV doc pm cdv ct : Value} (l : K.lookup f = some ⟨oc, od, .func (PySem.W.fnOf x qual (defArgs st) (defBody st) (defScope st) .none kV doc pm an cdv ct), osl⟩)
    (c : PySem.W.codeIn K cdv qual = true) (k : PySem.W.keepIn K (.ref f) = true) : Fun K x qual st f (PySem.W.fnOf x qual (defArgs st) (defBody st) (defScope st) .none kV doc pm an cdv ct) := ⟨⟨oc, od, kV, doc, pm, an, cdv, ct, osl, rfl, l, c⟩, k⟩
end
theorem small1000 {n : Nat} (h : n ≤ 1000) : n < sizeLine := Nat.lt_of_le_of_lt h (by decide)

section
variable {X : Cx}
theorem pv (i : Nat) {x : Str} {pos : Pos} (hN : X.N[i]? = some x := by rfl) (hv : Vis X.env.scope x := by first | exact Or.inl rfl | exact Or.inr (Or.inl rfl) | exact Or.inr (Or.inr rfl)) (hd : (x == ("__debug__" : Str)) = false := by decide)
    (hcd : (x == ("__classdict__" : Str)) = false := by decide) : PE X (.Name x pos) (tVar i) := pe_var hN hv hd hcd
end

/-- all that was tracked is as it was -/
def Same (H H' : Hp) : Prop := ∀ b o, H b = some o → H' b = some o
theorem Same.refl (H : Hp) : Same H H := fun _ _ h => h
theorem Same.trans {H H1 H2 : Hp} (a : Same H H1) (b : Same H1 H2) : Same H H2 := fun c o h => b c o (a c o h)
theorem Same.free {H H' : Hp} (e : Same H H') {l : Addr} (h : H' l = Option.none) : H l = Option.none := by
  cases q : H l with
  | none => rfl
  | some o =>
    rw [e l o q] at h
    cases h
theorem Same.seq {K : PySem.W.Frag} {H H' : Hp} {a : Addr} {xs : List V} (e : Same H H') (h : SqL K H a xs) : SqL K H' a xs := by
  rcases h with (h | ⟨o, h⟩) | h
  · exact .inl (.inl (e _ _ h))
  · exact .inl (.inr ⟨o, e _ _ h⟩)
  · exact .inr h

end L2

namespace TB
open PySem PySem.Spec PySem.W PyProof.Rows
section
variable {prog : Program} {w : World} {A : Around} {E : Value → Shared → Prop} {s : Shared}
theorem is_int {k : Int} {v : Value} (h : (intKind prog w).is k v = true) : ∃ t, v = .int k t := Value.isInt_shape (k := k) (v := v) h
theorem lex_of {fl fin : Bool} {Q : Bool → Shared → Prop} : ∀ {x y : List Int} {xs ys : List Value} (i : Nat), ItemsAre (intKind prog w) x xs → ItemsAre (intKind prog w) y ys → fin = decide (xs.length < ys.length) → Q (HT.lexLt x y) s → KatLex prog w A fl fin Q (xs.zip ys) i s
  | [], [], _, _, i, .nil, .nil, hf, h => by
    subst hf
    exact kat_nil h
  | [], _ :: _, _, _, i, .nil, .cons _ _, hf, h => by
    subst hf
    refine kat_nil ?_
    rw [HT.lexLt_nil_cons] at h
    simpa using h
  | _ :: _, [], _, _, i, .cons _ _, .nil, hf, h => by
    subst hf
    refine kat_nil ?_
    rw [HT.lexLt_cons_nil] at h
    simpa using h
  | a :: x, b :: y, _, _, i, .cons h1 t1, .cons h2 t2, hf, h => by
    rw [List.zip_cons_cons]
    refine kat_cons ((intKind prog w).eqBool (a := a) (b := b) h1 h2 ?_)
    obtain ⟨t, rfl⟩ := is_int h1
    obtain ⟨u, rfl⟩ := is_int h2
    rw [HT.lexLt_cons] at h
    by_cases c : a = b
    · rw [decide_eq_true c]
      rw [if_pos c] at h
      exact kat_yes (lex_of (i + 1) t1 t2 (by rw [hf]; simp) h)
    · rw [decide_eq_false c]
      rw [if_neg c] at h
      refine kat_no ?_
      cases e : (fl && i == 0) with
      | true => exact oneLt_int h
      | false => exact kat_one _ _ (lt_int h)
theorem lt_tup {x y : List Int} {a b : Addr} {fl : Bool} {Q : Bool → Shared → Prop} (hx : IsTupleKey (intKind prog w) s.heap x a) (hy : IsTupleKey (intKind prog w) s.heap y b) (h : Q (HT.lexLt x y) s) : wpAny (model prog w) A (keyLt' (tuples' fl) (.ref a) (.ref b)) Q E s := by
  obtain ⟨o, xs, n, ho, _, hd, hi⟩ := hx
  obtain ⟨o', ys, n', ho', _, hd', hi'⟩ := hy
  exact kat_lt ho hd ho' hd' (lex_of 0 hi hi' (by simp) h)

theorem lex_irrefl : ∀ x : List Int, HT.lexLt x x = false
  | [] => rfl
  | a :: x => by rw [HT.lexLt_cons, if_pos rfl, lex_irrefl x]
theorem lex_trans : ∀ {x y z : List Int}, HT.lexLt x y = true → HT.lexLt y z = true → HT.lexLt x z = true
  | [], [], _, h, _ => by cases h
  | [], _ :: _, [], _, h => by cases h
  | [], _ :: _, _ :: _, _, _ => rfl
  | _ :: _, [], _, h, _ => by cases h
  | _ :: _, _ :: _, [], _, h => by cases h
  | a :: x, b :: y, c :: z, h1, h2 => by
    rw [HT.lexLt_cons] at h1 h2 ⊢
    by_cases e1 : a = b
    · rw [if_pos e1] at h1
      by_cases e2 : b = c
      · rw [if_pos e2] at h2
        rw [if_pos (e1.trans e2)]
        exact lex_trans h1 h2
      · rw [if_neg e2] at h2
        rw [if_neg (by rw [e1]; exact e2), e1]
        exact h2
    · rw [if_neg e1] at h1
      have l1 : a < b := by simpa using h1
      by_cases e2 : b = c
      · rw [if_neg (by rw [← e2]; exact e1), ← e2]
        exact h1
      · rw [if_neg e2] at h2
        have l2 : b < c := by simpa using h2
        rw [if_neg (by omega)]
        simpa using (show a < c by omega)
theorem lex_total : ∀ x y : List Int, x ≠ y → HT.lexLt x y = true ∨ HT.lexLt y x = true
  | [], [], h => absurd rfl h
  | [], _ :: _, _ => .inl rfl
  | _ :: _, [], _ => .inr rfl
  | a :: x, b :: y, h => by
    rw [HT.lexLt_cons, HT.lexLt_cons]
    by_cases e : a = b
    · rw [if_pos e, if_pos e.symm]
      exact lex_total x y fun z => h (by rw [e, z])
    · rw [if_neg e, if_neg (Ne.symm e)]
      rcases Int.lt_or_gt_of_ne e with q | q
      · exact .inl (by simpa using q)
      · exact .inr (by simpa using q)
/-- how many lie before it -/
def rank (ks : List (List Int)) (i : Nat) : Nat := ks.countP fun k => HT.lexLt k (ks.getD i [])
theorem rank_lt {ks : List (List Int)} {i j : Nat} (hi : i < ks.length) (hj : j < ks.length) (h : HT.lexLt (ks.getD i []) (ks.getD j []) = true) : rank ks i < rank ks j := by
  unfold rank
  have hm : ks.getD i [] ∈ ks := by rw [List.getD_eq_getElem?_getD, List.getElem?_eq_getElem hi]; exact List.getElem_mem hi
  generalize ks.getD i [] = a at *
  generalize ks.getD j [] = b at *
  clear hi hj
  induction ks with
  | nil => cases hm
  | cons k ks ih =>
    have mono : ∀ l : List (List Int), l.countP (fun k => HT.lexLt k a) ≤ l.countP fun k => HT.lexLt k b := fun l => List.countP_mono_left fun x _ hx => lex_trans hx h
    rw [List.countP_cons, List.countP_cons]
    rcases List.mem_cons.mp hm with e | hm
    · rw [← e, lex_irrefl, h]
      have := mono ks
      simp
      omega
    · have := ih hm
      by_cases c : HT.lexLt k a = true
      · rw [c, lex_trans c h]; simp; omega
      · have c' : HT.lexLt k a = false := by simpa using c
        rw [c', if_neg (by decide)]
        omega
theorem rank_iff {ks : List (List Int)} (nd : ks.Nodup) {i j : Nat} (hi : i < ks.length) (hj : j < ks.length) : decide (rank ks i < rank ks j) = HT.lexLt (ks.getD i []) (ks.getD j []) := by
  by_cases e : i = j
  · subst e
    rw [lex_irrefl]
    simp
  · have ne : ks.getD i [] ≠ ks.getD j [] := fun z => by
      rw [List.getD_eq_getElem?_getD, List.getD_eq_getElem?_getD, List.getElem?_eq_getElem hi, List.getElem?_eq_getElem hj] at z
      exact e ((List.getElem_inj nd).mp z)
    rcases lex_total _ _ ne with h | h
    · rw [h]
      exact decide_eq_true (rank_lt hi hj h)
    · have h2 := rank_lt hj hi h
      have : HT.lexLt (ks.getD i []) (ks.getD j []) = false := by
        cases c : HT.lexLt (ks.getD i []) (ks.getD j []) with
        | false => rfl
        | true =>
          have := lex_trans c h
          rw [lex_irrefl] at this
          cases this
      rw [this]
      exact decide_eq_false (by omega)
theorem rank_inj {ks : List (List Int)} (nd : ks.Nodup) (i j : Nat) (hi : i < ks.length) (hj : j < ks.length) (h : rank ks i = rank ks j) : i = j := by
  by_cases e : i = j
  · exact e
  · have ne : ks.getD i [] ≠ ks.getD j [] := fun z => by
      rw [List.getD_eq_getElem?_getD, List.getD_eq_getElem?_getD, List.getElem?_eq_getElem hi, List.getElem?_eq_getElem hj] at z
      exact e ((List.getElem_inj nd).mp z)
    rcases lex_total _ _ ne with q | q
    · have := rank_lt hi hj q; omega
    · have := rank_lt hj hi q; omega

abbrev rf (p : Addr × List Int) : Value := .ref p.1
theorem kat_tups : ∀ ps : List (Addr × List Int), (∀ p ∈ ps, IsTupleKey (intKind prog w) s.heap p.2 p.1) → (∀ p ∈ ps, p.2 ≠ []) → ∃ fs, KatTups s.heap (ps.map rf) fs ∧ fs.length = ps.length ∧ ∀ v ∈ fs, ∃ k t, v = Value.int k t
  | [], _, _ => ⟨[], KatTups.nil, rfl, fun v hv => by cases hv⟩
  | p :: ps, ht, hn => by
    obtain ⟨fs, h1, h2, h3⟩ := kat_tups ps (fun q hq => ht q (List.mem_cons_of_mem _ hq)) fun q hq => hn q (List.mem_cons_of_mem _ hq)
    obtain ⟨o, items, n, ho, hc, hd, hi⟩ := ht p List.mem_cons_self
    have hne := hn p List.mem_cons_self
    obtain ⟨k, r, e⟩ : ∃ k r, p.2 = k :: r := by
      cases c : p.2 with
      | nil => exact absurd c hne
      | cons k r => exact ⟨k, r, rfl⟩
    rw [e] at hi
    obtain ⟨l⟩ := items
    cases hi with
    | @cons _ v _ vs hk hr =>
      obtain ⟨t, rfl⟩ := is_int hk
      refine ⟨.int k t :: fs, KatTups.cons ho hc hd (by simp) h1, by simp [h2], fun v hv => ?_⟩
      rcases List.mem_cons.mp hv with rfl | hv
      · exact ⟨k, t, rfl⟩
      · exact h3 v hv
set_option maxHeartbeats 1000000 in
theorem list_sort_tup {a : Addr} {n : Nat} {ps : List (Addr × List Int)} {P : PySem.Fin → Shared → Prop} (ho : s.heap.get? a = some (seqObj "list" (ps.map rf).toArray n)) (tups : ∀ p ∈ ps, IsTupleKey (intKind prog w) s.heap p.2 p.1) (hne : ∀ p ∈ ps, p.2 ≠ []) (nd : (ps.map (·.2)).Nodup) (h64 : ps.length < 64)
    (h : ∀ (h' : Heap) (ps' : List (Addr × List Int)) (c : Nat), (∀ b o, b ≠ a → s.heap.get? b = some o → h'.get? b = some o) → h'.get? a = some (seqObj "list" (ps'.map rf).toArray c) → ps'.Perm ps → ps'.Pairwise (fun p q => HT.lexLt p.2 q.2 = true) → P (.done (.ret .none)) { s with heap := h' }) :
    wpAny (model prog w) A (Builtin.«list.sort» ⟨[.ref a], []⟩) P E s := by
  have ha : a < s.heap.objs.size := Heap.lt_size ho
  obtain ⟨e1, ho1⟩ : ∃ e1, (s.heap.update a (Obj.mapSeq fun _ => (#[] : Array Value))).get? a = some (seqObj "list" #[] e1) := ⟨_, get?_update_seq ho fun _ => #[]⟩
  have hz : (ps.map rf).length = ps.length := List.length_map _
  rw [list_sort_plain]
  refine wpAny_bind (listItems_at ho rfl ?_)
  refine wpAny_bind (listUpdate_at ho rfl ?_ (by rw [List.size_toArray, hz, sizeLine_eq]; omega) (Nat.zero_le _))
  refine wpAny_bind (seqEpoch_at ho1 rfl ?_)
  refine wpAny_bind (wpAny_newTuple ?_ (by show (ps.map rf).length ≤ _; rw [hz, sizeLine_eq]; omega))
  refine wpAny_bind (wpAny_newList ?_ (Nat.zero_le _))
  refine wpAny_holding ?_
  have keep : ∀ b o, b ≠ a → s.heap.get? b = some o → (((s.heap.update a (Obj.mapSeq fun _ => (#[] : Array Value))).push (seqObj "tuple" (ps.map rf).toArray 0)).push (seqObj "list" #[] 0)).get? b = some o := fun b o hb e => Heap.get?_push_of_some _ (Heap.get?_push_of_some _ ((Heap.get?_update_other _ _ (Ne.symm hb)).trans e))
  have ho2 : (((s.heap.update a (Obj.mapSeq fun _ => (#[] : Array Value))).push (seqObj "tuple" (ps.map rf).toArray 0)).push (seqObj "list" #[] 0)).get? a = some (seqObj "list" #[] e1) := Heap.get?_push_of_some _ (Heap.get?_push_of_some _ ho1)
  have tups' : ∀ p ∈ ps, IsTupleKey (intKind prog w) (((s.heap.update a (Obj.mapSeq fun _ => (#[] : Array Value))).push (seqObj "tuple" (ps.map rf).toArray 0)).push (seqObj "list" #[] 0)) p.2 p.1 := fun p hp => key_at (tups p hp) fun o e => keep _ o (fun z => by
    obtain ⟨o', _, _, ho', hc', _⟩ := tups p hp
    rw [z, ho] at ho'
    cases ho'
    exact absurd hc' (show ¬ (Value.type "list" = Value.type "tuple") by decide)) e
  show wpAny (model prog w) A _ P E { s with heap := ((s.heap.update a (Obj.mapSeq fun _ => (#[] : Array Value))).push (seqObj "tuple" (ps.map rf).toArray 0)).push (seqObj "list" #[] 0) }
  generalize ((s.heap.update a (Obj.mapSeq fun _ => (#[] : Array Value))).push (seqObj "tuple" (ps.map rf).toArray 0)).push (seqObj "list" #[] 0) = h3 at *
  dsimp only
  -- what is left behind the sort proper
  have fin : ∀ (out : List (Addr × List Int)), out.length = ps.length → out.Perm ps → out.Pairwise (fun p q => HT.lexLt p.2 q.2 = true) → P (.done (.ret .none)) { s with heap := h3.update a (Obj.mapSeq fun _ => (out.map rf).toArray) } := fun out _ pm pw => by
    obtain ⟨c2, hc2⟩ : ∃ c2, (h3.update a (Obj.mapSeq fun _ => (out.map rf).toArray)).get? a = some (seqObj "list" (out.map rf).toArray c2) := ⟨_, get?_update_seq ho2 fun _ => (out.map rf).toArray⟩
    exact h _ out c2 (fun b o hb e => (Heap.get?_update_other _ _ (Ne.symm hb)).trans (keep b o hb e)) hc2 pm pw
  by_cases h2 : (ps.map rf).toArray.size < 2
  · rw [if_pos h2, if_pos h2]
    refine wpAny_bind (wpAny_pure ?_)
    rw [StateT.run_pure]
    refine wpAny_bind (wpAny_pure ?_)
    dsimp only
    have arr : (arrOf (SortSt.mk' general' ((ps.map rf).toArray.zip (ps.map rf).toArray) #[] 7 none)).map (·.2) = (ps.map rf).toArray := by
      show ((ps.map rf).toArray.zip (ps.map rf).toArray).map (·.2) = _
      apply Array.toList_inj.mp
      simp only [Array.toList_map, Array.toList_zip]
      exact List.map_snd_zip (Nat.le_refl _)
    rw [arr]
    refine wpAny_bind (seqEpoch_at ho2 rfl ?_)
    refine wpAny_bind (listUpdate_at ho2 rfl ?_ (Nat.zero_le _) (by show (ps.map rf).toArray.size ≤ _; omega))
    simp only [bne_self_eq_false, Bool.false_eq_true, if_false]
    refine wpAny_pure (fin ps rfl (List.Perm.refl _) ?_)
    have hl : ps.length < 2 := by simpa using h2
    match ps, hl with
    | [], _ => exact List.Pairwise.nil
    | [p], _ => exact List.pairwise_singleton _ _
  · rw [if_neg h2, if_neg h2]
    have hl : 2 ≤ ps.length := by simpa using h2
    obtain ⟨fs, ft, fl, fi⟩ := kat_tups (prog := prog) (w := w) (s := { s with heap := h3 }) ps tups' hne
    refine wpAny_bind (kat_kind (T := .type "int") ft (by omega) (fun v hv => ?_) (by decide) ?_)
    · obtain ⟨k, t, rfl⟩ := fi v hv
      exact Looks.now
    have cmp : ∀ i j (C : Bool → Shared → Prop), i < ps.length → j < ps.length → C (decide (rank (ps.map (·.2)) i < rank (ps.map (·.2)) j)) { s with heap := h3 } → kas_ask prog w A (tuples' ((Value.type "int") != Value.type "tuple")) (ps.map rf) i j C { s with heap := h3 } := fun i j C hi hj hC => by
      rw [rank_iff nd (by simpa using hi) (by simpa using hj)] at hC
      unfold kas_ask
      have g : ∀ i (hi : i < ps.length), (ps.map rf).getD i Value.none = .ref ps[i].1 ∧ (ps.map (·.2)).getD i [] = ps[i].2 := fun i hi => by simp [hi]
      rw [(g i hi).1, (g j hj).1]
      rw [(g i hi).2, (g j hj).2] at hC
      exact lt_tup (tups' _ (List.getElem_mem hi)) (tups' _ (List.getElem_mem hj)) hC
    obtain ⟨p, ep, psz, pup, ppm⟩ := run_sort (r := rank (ps.map (·.2))) (n := ps.length) (by omega) fun i j hi hj => rank_inj nd i j (by simpa using hi) (by simpa using hj)
    have ask : (kas_sort (ps.map rf).length).kasWp (kas_ask prog w A (tuples' ((Value.type "int") != Value.type "tuple")) (ps.map rf)) (fun q s' => q = p ∧ s' = { s with heap := h3 }) { s with heap := h3 } := by
      rw [hz]
      exact wp_run' (r := rank (ps.map (·.2))) cmp _ (ga_sort (by omega)) ⟨ep, rfl⟩
    refine wpAny_bind (wpAny_mono (kat_run (Q := fun st' s' => arrOf st' = p.map (kas_item ((ps.map rf).toArray.zip (ps.map rf).toArray)) ∧ failedOf st' = none ∧ s' = { s with heap := h3 }) rfl (by omega) (by omega) (fun q st' s' a1 a2 a3 a4 => ⟨by rw [a2, a4.1], a3, a4.2⟩) ask) ?_ fun _ _ e => e)
    rintro ⟨⟨⟩, st'⟩ s' ⟨har, hf, rfl⟩
    dsimp only
    have hout := kat_snds (vs := ps.map rf) rfl har
    -- the order as entries
    have plt : ∀ i ∈ p.toList, i < ps.length := fun i hi => by
      have := ppm.mem_iff.mp (Array.mem_toList_iff.mp hi)
      simpa using this
    have outm : (p.toList.map fun i => (ps.map rf).getD i Value.none) = (picked ps p.toList).map rf := (picked_map rf ps Value.none p.toList plt).symm
    rw [hout, outm]
    have pl : (picked ps p.toList).length = ps.length := by
      have := congrArg List.length (picked_map (fun p => p) ps (default : Addr × List Int) p.toList plt)
      simpa [psz] using this
    refine wpAny_bind (seqEpoch_at (s := { s with heap := h3 }) ho2 rfl ?_)
    refine wpAny_bind (listUpdate_at (s := { s with heap := h3 }) ho2 rfl ?_ (Nat.zero_le _) (by show ((picked ps p.toList).map rf).toArray.size ≤ _; simp [pl, sizeLine_eq]; omega))
    rw [hf]
    simp only [bne_self_eq_false, Bool.false_eq_true, if_false]
    refine wpAny_pure (fin (picked ps p.toList) pl ?_ ?_)
    · have e2 : picked ps (List.range ps.length) = ps := by
        have := picked_map (fun p => p) ps (default : Addr × List Int) (List.range ps.length) fun q hq => List.mem_range.mp hq
        rw [List.map_id'] at this
        rw [this]
        refine List.ext_getElem (by simp) fun i h1 h2 => ?_
        simp [h2]
      have pm : p.toList.Perm (List.range ps.length) := by simpa using ppm.toList
      have := pm.filterMap fun q : Nat => ps[q]?
      show (picked ps p.toList).Perm ps
      rw [← e2]
      conv => lhs; rw [e2]
      exact this
    · have e3 := picked_map (fun p => p) ps (default : Addr × List Int) p.toList plt
      rw [List.map_id'] at e3
      rw [e3, List.pairwise_map, List.pairwise_iff_getElem]
      intro i j hi hj hij
      have hi' : i < p.size := by simpa using hi
      have hj' : j < p.size := by simpa using hj
      have lt := pup.lt' hij (show j < ps.length by omega)
      have gi : p.getD i 0 = p.toList[i] := by simp [Array.getD, hi']
      have gj : p.getD j 0 = p.toList[j] := by simp [Array.getD, hj']
      rw [gi, gj] at lt
      have l1 := plt _ (List.getElem_mem hi)
      have l2 := plt _ (List.getElem_mem hj)
      have := rank_iff nd (i := p.toList[i]) (j := p.toList[j]) (by simpa using l1) (by simpa using l2)
      rw [decide_eq_true lt] at this
      have g : ∀ q (hq : q < ps.length), ((ps.map fun p => p).getD q (default : Addr × List Int)).2 = (ps.map (·.2)).getD q [] := fun q hq => by simp [hq]
      rw [g _ l1, g _ l2]
      exact this.symm
end
end TB

namespace TB
open PySem PySem.Spec PySem.W PyProof.Rows
theorem perm_map_inv {α β : Type} (f : α → β) : ∀ {ps : List α} {l : List β}, l.Perm (ps.map f) → ∃ qs : List α, qs.Perm ps ∧ l = qs.map f
  | [], l, h => ⟨[], List.Perm.refl _, by simpa using h⟩
  | p :: ps, l, h => by
    have hm : f p ∈ l := h.mem_iff.mpr (by simp)
    obtain ⟨a, b, rfl⟩ := List.append_of_mem hm
    have h2 : (a ++ b).Perm (ps.map f) := by
      have := List.perm_middle.symm.trans h
      rw [List.map_cons] at this
      exact (List.perm_cons _).mp this
    obtain ⟨qs, hq, e⟩ := perm_map_inv f h2
    refine ⟨qs.take a.length ++ p :: qs.drop a.length, ?_, ?_⟩
    · refine List.perm_middle.trans (List.Perm.cons p ?_)
      rw [List.take_append_drop]
      exact hq
    · rw [List.map_append, List.map_cons, List.map_take, List.map_drop, ← e]
      simp
section
variable {prog : Program} {w : World} {A : Around} {E : Value → Shared → Prop} {s : Shared}
theorem SetAt.calm {K : Type} [DecidableEq K] {knd : KeyKind prog w K} {h : Heap} {S : Addr} {ps : List (Addr × List K)} (x : SetAt knd h S ps) : ∃ o ep t, h.get? S = some o ∧ Calm w o (ps.map (ent knd)).toArray ep t ∧ (ps.map (·.2)).Nodup := by
  obtain ⟨o, ep, t, ho, hex, hd, H, hp, hm, hk⟩ := x
  refine ⟨o, ep, t, ho, ⟨hex, hd, ?_, H.plain.rise, hp.1, hp.2⟩, hk⟩
  have h1 := H.size
  have h2 := H.room
  simp only [SetTable.fits, SetTable.fill, H.plain.dum, Bool.and_eq_true, beq_iff_eq, decide_eq_true_eq]
  simp only [Array.length_toList, List.length_map] at h1 h2
  simp
  omega
set_option maxHeartbeats 1000000 in
theorem call_sorted_set {S : Addr} {ps : List (Addr × List Int)} {Q : Value → Shared → Prop} (hh : A.handled = none) (hS : SetAt (intKind prog w) s.heap S ps) (tups : ∀ p ∈ ps, IsTupleKey (intKind prog w) s.heap p.2 p.1) (hne : ∀ p ∈ ps, p.2 ≠ []) (h64 : ps.length < 64)
    (h : ∀ (h' : Heap) (tk : Nat) (l : Addr) (ps' : List (Addr × List Int)) (c : Nat), (∀ b o, s.heap.get? b = some o → h'.get? b = some o) → s.heap.objs.size ≤ l → h'.get? l = some (seqObj "list" (ps'.map rf).toArray c) → ps'.Perm ps → ps'.Pairwise (fun p q => HT.lexLt p.2 q.2 = true) → Q (.ref l) { s with heap := h', toks := tk }) :
    wpAny (model prog w) A (call (.builtin "sorted") [.ref S]) Q E s := by
  obtain ⟨o, ep, t, ho, C, nd⟩ := hS.calm
  refine Calls.call_function_entry kind_sorted plain_sorted entry_sorted (args_sorted1 _) ?_
  unfold Builtin.«sorted»
  refine wpAny_bind (m := checkCount "sorted" 1 1 _) (wpAny_pure ?_)
  refine wpAny_bind (collect_set (by simp [hh]) ho C (by rw [sizeLine_eq]; simp; omega) fun h1 tk vs keep1 hle ev => ?_)
  obtain ⟨qs, hq, eq⟩ := perm_map_inv (ent (intKind prog w)) (by simpa using walk_perm w S ep (ps.map (ent (intKind prog w))).toArray)
  have ev2 : vs = qs.map rf := by
    rw [ev, eq, List.map_map]
    rfl
  subst ev2
  have ql : qs.length = ps.length := hq.length_eq
  refine wpAny_bind (wpAny_newList ?_ (by rw [List.length_map, sizeLine_eq]; omega))
  have hL : (h1.push (seqObj "list" (qs.map rf).toArray 0)).get? h1.objs.size = some (seqObj "list" (qs.map rf).toArray 0) := Heap.get?_push_size _ rfl
  have keep2 : ∀ b o, s.heap.get? b = some o → (h1.push (seqObj "list" (qs.map rf).toArray 0)).get? b = some o := fun b o e => Heap.get?_push_of_some _ (keep1 b o e)
  have new1 : s.heap.get? h1.objs.size = none := by
    cases e : s.heap.get? h1.objs.size with
    | none => rfl
    | some o' => exact absurd (Heap.lt_size (keep1 _ _ e)) (Nat.lt_irrefl _)
  show wpAny _ _ _ _ _ { s with heap := h1.push (seqObj "list" (qs.map rf).toArray 0), toks := tk }
  have tups2 : ∀ p ∈ qs, IsTupleKey (intKind prog w) (h1.push (seqObj "list" (qs.map rf).toArray 0)) p.2 p.1 := fun p hp => key_at (tups p (hq.mem_iff.mp hp)) fun o e => keep2 _ o e
  generalize h1.push (seqObj "list" (qs.map rf).toArray 0) = h2 at *
  generalize h1.objs.size = l at *
  refine wpAny_bind (wpAny_holding (wpAny_call_entry slot_list_sort ⟨_, hL, rfl⟩ entry_list_sort ?_ (args_list_sort _)))
  refine list_sort_tup (s := { s with heap := h2, toks := tk }) hL tups2 (fun p hp => hne p (hq.mem_iff.mp hp)) ((hq.map _).nodup_iff.mpr nd) (by omega) fun h3 ps' c kp hl3 pm pw => ?_
  refine ⟨_, rfl, wpAny_pure ⟨_, rfl, h h3 tk l ps' c (fun b o e => kp b o (fun z => ?_) (keep2 b o e)) hle hl3 (pm.trans hq) pw⟩⟩
  rw [z] at e
  rw [new1] at e
  cases e
end
end TB


namespace L2
open PySem PySem.Spec PyProof.Rows

def clFrom (cells : List (Str × Addr)) : List (Str × NameKind) → List (Str × Addr) → List (Str × Addr)
  | [], acc => acc
  | (n, k) :: r, acc => if (k == NameKind.free) = true then clFrom cells r ((n, (cells.lookup n).getD 0) :: acc) else clFrom cells r acc

theorem clFrom_mem {cells : List (Str × Addr)} {x : Str} {c : Addr} : ∀ {names : List (Str × NameKind)} {acc : List (Str × Addr)}, (x, c) ∈ clFrom cells names acc → (x, c) ∈ acc ∨ ((x, NameKind.free) ∈ names ∧ c = (cells.lookup x).getD 0)
  | [], _, h => .inl h
  | (n, k) :: r, acc, h => by
    unfold clFrom at h
    by_cases hk : (k == NameKind.free) = true
    · rw [if_pos hk] at h
      have ek : k = NameKind.free := by simpa using hk
      subst ek
      rcases clFrom_mem h with q | ⟨q1, q2⟩
      · rcases List.mem_cons.mp q with e | q
        · cases e; exact .inr ⟨List.mem_cons_self, rfl⟩
        · exact .inl q
      · exact .inr ⟨List.mem_cons_of_mem _ q1, q2⟩
    · rw [if_neg hk] at h
      rcases clFrom_mem h with q | ⟨q1, q2⟩
      · exact .inl q
      · exact .inr ⟨List.mem_cons_of_mem _ q1, q2⟩

theorem clFrom_has {cells : List (Str × Addr)} {x : Str} : ∀ {names : List (Str × NameKind)} {acc : List (Str × Addr)}, ((x, NameKind.free) ∈ names ∨ (acc.lookup x).isSome = true) → ((clFrom cells names acc).lookup x).isSome = true
  | [], _, h => by
    rcases h with h | h
    · exact absurd h (by simp)
    · exact h
  | (n, k) :: r, acc, h => by
    unfold clFrom
    by_cases hk : (k == NameKind.free) = true
    · rw [if_pos hk]
      refine clFrom_has ?_
      rcases h with h | h
      · rcases List.mem_cons.mp h with e | h
        · cases e
          exact .inr (by rw [List.lookup_cons, beq_self_eq_true]; rfl)
        · exact .inl h
      · refine .inr ?_
        rw [List.lookup_cons]
        cases hb : x == n with
        | true => rfl
        | false => exact h
    · rw [if_neg hk]
      refine clFrom_has ?_
      rcases h with h | h
      · rcases List.mem_cons.mp h with e | h
        · cases e; exact absurd rfl hk
        · exact .inl h
      · exact .inr h

theorem closure_go {env : Env} (f : Str × NameKind → List (Str × Addr) → Sem (ForInStep (List (Str × Addr))))
    (hf : ∀ n k cs, f (n, k) cs = if (k == NameKind.free) = true then (do let a ← cellOf env n; pure (ForInStep.yield ((n, a) :: cs))) else pure (ForInStep.yield cs)) :
    ∀ (names : List (Str × NameKind)) (acc : List (Str × Addr)), (∀ x ∈ names, x.2 = NameKind.free → ∃ c, env.cells.lookup x.1 = some c) → forIn names acc f = (pure (clFrom env.cells names acc) : Sem (List (Str × Addr)))
  | [], acc, _ => by rw [List.forIn_nil]; rfl
  | (n, k) :: r, acc, h => by
    rw [List.forIn_cons, hf]
    unfold clFrom
    have hr : ∀ x ∈ r, x.2 = NameKind.free → ∃ c, env.cells.lookup x.1 = some c := fun x hx => h x (List.mem_cons_of_mem _ hx)
    by_cases hk : (k == NameKind.free) = true
    · rw [if_pos hk, if_pos hk]
      have ek : k = NameKind.free := by simpa using hk
      obtain ⟨c, hc⟩ := h (n, k) List.mem_cons_self ek
      have hc' : env.cells.lookup n = some c := hc
      have e1 : cellOf env n = pure c := by unfold cellOf; rw [hc']
      rw [e1, hc']
      exact closure_go f hf r _ hr
    · rw [if_neg hk, if_neg hk]
      exact closure_go f hf r _ hr

theorem closure_eq {env : Env} {scope : Scope} (h : ∀ x ∈ scope.names, x.2 = NameKind.free → ∃ c, env.cells.lookup x.1 = some c) : closureFor scope env = pure (clFrom env.cells scope.names []) := by
  unfold closureFor
  dsimp only
  rw [closure_go (env := env) _ ?_ scope.names [] h]
  · rfl
  · intro n k cs
    by_cases hk : (k == NameKind.free) = true
    · simp only [hk, if_true]
    · simp only [hk, if_false]

theorem cellsFrom_mem {x : Str} {c : Addr} : ∀ {names : List (Str × NameKind)} {n : Nat} {acc : List (Str × Addr)}, (x, c) ∈ cellsFrom n names acc → (x, c) ∈ acc ∨ (n ≤ c ∧ (x, NameKind.cell) ∈ names)
  | [], _, _, h => .inl h
  | (y, k) :: r, n, acc, h => by
    unfold cellsFrom at h
    by_cases hk : (k == NameKind.cell) = true
    · rw [if_pos hk] at h
      have ek : k = NameKind.cell := by simpa using hk
      subst ek
      rcases cellsFrom_mem h with q | ⟨q1, q2⟩
      · rcases List.mem_cons.mp q with e | q
        · cases e; exact .inr ⟨Nat.le_refl _, List.mem_cons_self⟩
        · exact .inl q
      · exact .inr ⟨Nat.le_of_succ_le q1, List.mem_cons_of_mem _ q2⟩
    · rw [if_neg hk] at h
      rcases cellsFrom_mem h with q | ⟨q1, q2⟩
      · exact .inl q
      · exact .inr ⟨q1, List.mem_cons_of_mem _ q2⟩
theorem cellsFrom_inj {x y : Str} {c : Addr} : ∀ {names : List (Str × NameKind)} {n : Nat} {acc : List (Str × Addr)}, (∀ p ∈ acc, p.2 < n) → (x, c) ∈ cellsFrom n names acc → (y, c) ∈ cellsFrom n names acc → ((x, c) ∈ acc ∧ (y, c) ∈ acc) ∨ x = y
  | [], _, _, _, h, h' => .inl ⟨h, h'⟩
  | (z, k) :: r, n, acc, hl, h, h' => by
    unfold cellsFrom at h h'
    by_cases hk : (k == NameKind.cell) = true
    · rw [if_pos hk] at h h'
      have hl' : ∀ p ∈ (z, n) :: acc, p.2 < n + 1 := fun p hp => by
        rcases List.mem_cons.mp hp with e | hp
        · subst e; exact Nat.lt_succ_self _
        · exact Nat.lt_succ_of_lt (hl p hp)
      rcases cellsFrom_inj hl' h h' with ⟨a, b⟩ | e
      · rcases List.mem_cons.mp a with e | a
        · obtain ⟨e1, e2⟩ := Prod.mk.inj e
          rcases List.mem_cons.mp b with e' | b
          · exact .inr (e1.trans (Prod.mk.inj e').1.symm)
          · rw [e2] at b
            exact absurd (show n < n from hl _ b) (Nat.lt_irrefl n)
        · rcases List.mem_cons.mp b with e' | b
          · rw [(Prod.mk.inj e').2] at a
            exact absurd (show n < n from hl _ a) (Nat.lt_irrefl n)
          · exact .inl ⟨a, b⟩
      · exact .inr e
    · rw [if_neg hk] at h h'
      exact cellsFrom_inj hl h h'
theorem pushCells_cell {x : Str} {c : Addr} : ∀ {names : List (Str × NameKind)} {h : Heap} {acc : List (Str × Addr)}, (x, c) ∈ cellsFrom h.objs.size names acc → (x, c) ∈ acc ∨ (pushCells h names).IsCell c none
  | [], _, _, q => .inl q
  | (y, k) :: r, h, acc, q => by
    unfold cellsFrom at q
    unfold pushCells
    by_cases hk : (k == NameKind.cell) = true
    · rw [if_pos hk] at q ⊢
      have q' : (x, c) ∈ cellsFrom (h.push { cls := .type "cell", data := .cell none }).objs.size r ((y, h.objs.size) :: acc) := by rw [Heap.size_push]; exact q
      rcases pushCells_cell q' with z | z
      · rcases List.mem_cons.mp z with e | z
        · cases e
          exact .inr ⟨_, pushCells_keeps r _ _ _ (Heap.get?_push_size _ rfl), rfl⟩
        · exact .inl z
      · exact .inr z
    · rw [if_neg hk] at q ⊢
      exact pushCells_cell q

theorem newEnv_comp {M : Model} {A : Around} {E : Value → Shared → Prop} {s : Shared} {scope : Scope} {globals : Addr} {cl : List (Str × Addr)} {qual : Str} {env : Env} {Q : Env → Shared → Prop}
    (h : Q { scope := scope, locals := s.heap.objs.size, globals := globals, cells := cellsFrom (s.heap.objs.size + 1) scope.names cl, qual := qual, func := none, code := env.code, frame := env.frame, builtins := env.builtins }
      { s with heap := pushCells (s.heap.push { cls := .type "dict", data := .dict #[] }) scope.names }) :
    wpAny M A (newFunctionEnv scope globals cl [] qual none .none (some env)) Q E s := by
  unfold newFunctionEnv
  refine wpAny_bind (wpAny_alloc ?_)
  refine wpAny_bind (wpAny_layCells _ ?_ scope.names cl _ _ ?_)
  · intro name kind cells
    by_cases hk : (kind == NameKind.cell) = true
    · simp only [hk, if_true]
    · simp only [hk, if_false]
  · have e : (s.heap.push { cls := .type "dict", data := .dict #[] }).objs.size = s.heap.objs.size + 1 := Heap.size_push ..
    rw [← e] at h
    exact wpAny_pure h

theorem lookup_relabel {env : Env} {x : Str} {k' : NameKind} : ∀ {names : List (Str × NameKind)}, (names.map fun (n, k) => if (k == NameKind.free && env.scope.kind == .function && env.kindOf n == some .cell) then (n, NameKind.cell) else (n, k)).lookup x = some k' →
    ∃ k, names.lookup x = some k ∧ (k' = k ∨ (k = .free ∧ k' = .cell))
  | [], h => by simp at h
  | (n, k) :: r, h => by
    by_cases hc : (k == NameKind.free && env.scope.kind == .function && env.kindOf n == some .cell) = true
    · simp only [List.map_cons, hc, if_true, List.lookup_cons] at h ⊢
      cases hx : x == n with
      | true =>
        rw [hx] at h
        have ek : k = NameKind.free := by
          have := hc
          simp only [Bool.and_eq_true] at this
          simpa using this.1.1
        exact ⟨k, rfl, .inr ⟨ek, (Option.some.inj h).symm⟩⟩
      | false =>
        rw [hx] at h
        exact lookup_relabel h
    · have hc' : (k == NameKind.free && env.scope.kind == .function && env.kindOf n == some .cell) = false := by simpa using hc
      simp only [List.map_cons, hc', Bool.false_eq_true, if_false, List.lookup_cons] at h ⊢
      cases hx : x == n with
      | true => rw [hx] at h; exact ⟨k, rfl, .inl (Option.some.inj h).symm⟩
      | false =>
        rw [hx] at h
        exact lookup_relabel h
theorem lookup_relabel_of {env : Env} {x : Str} {k : NameKind} : ∀ {names : List (Str × NameKind)}, names.lookup x = some k →
    ∃ k', (names.map fun (n, k) => if (k == NameKind.free && env.scope.kind == .function && env.kindOf n == some .cell) then (n, NameKind.cell) else (n, k)).lookup x = some k' ∧ (k' = k ∨ (k = .free ∧ k' = .cell))
  | [], h => by simp at h
  | (n, k₀) :: r, h => by
    by_cases hc : (k₀ == NameKind.free && env.scope.kind == .function && env.kindOf n == some .cell) = true
    · simp only [List.map_cons, hc, if_true, List.lookup_cons] at h ⊢
      cases hx : x == n with
      | true =>
        rw [hx] at h
        have ek : k₀ = NameKind.free := by
          have := hc
          simp only [Bool.and_eq_true] at this
          simpa using this.1.1
        have e2 : k₀ = k := Option.some.inj h
        exact ⟨_, rfl, .inr ⟨e2 ▸ ek, rfl⟩⟩
      | false =>
        rw [hx] at h
        exact lookup_relabel_of h
    · have hc' : (k₀ == NameKind.free && env.scope.kind == .function && env.kindOf n == some .cell) = false := by simpa using hc
      simp only [List.map_cons, hc', Bool.false_eq_true, if_false, List.lookup_cons] at h ⊢
      cases hx : x == n with
      | true => rw [hx] at h; exact ⟨k₀, rfl, .inl (Option.some.inj h)⟩
      | false =>
        rw [hx] at h
        exact lookup_relabel_of h

def compEnv (sc : Scope) (C : Addr) (env : Env) : Env :=
  { scope := relabel sc env, locals := C, globals := env.globals, cells := cellsFrom (C + 1) sc.names (clFrom env.cells sc.names []), qual := env.qual, func := none, code := env.code, frame := env.frame, builtins := env.builtins }
def cxComp (X : Cx) (N' : List Str) (sc : Scope) (C : Addr) (s₀ : Shared) (H₀ : Hp) (ex : List Addr) : Cx where
  prog := X.prog
  w := X.w
  K := X.K
  mg := X.mg
  base := X.base
  A := X.A
  N := N'
  s₀ := s₀
  H₀ := H₀
  env := compEnv sc C X.env
  outer := X.stack
  stack := X.stack
  ex := ex
  fn := fun x => decide (sc.names.lookup x = some .cell)
  calm := X.calm
  pn := []
  xe := fun _ _ => False

/-- the block's names at its entry: by the outer names' places -/
def capt (ix : List (Option Nat)) (σ : St) : St := ix.map fun o => o.bind fun j => (σ[j]?).join

/-- what a block's scope must be: N' its names, ix the outer place of each free one -/
structure CompScope (X : Cx) (N' : List Str) (ix : List (Option Nat)) (sc : Scope) : Prop where
  kind : sc.kind = .function
  nd : N'.Nodup
  uniq : (sc.names.map (·.1)).Nodup
  len : ix.length = N'.length
  free : ∀ x ∈ sc.names, x.2 = .free → X.env.kindOf x.1 = some .cell ∨ X.env.kindOf x.1 = some .free
  at_ : ∀ (i j : Nat), ix[i]? = some (some j) → ∃ x, N'[i]? = some x ∧ X.N[j]? = some x ∧ sc.names.lookup x = some .free

theorem nodup_lookup {α : Type} {x : Str} {a : α} : ∀ {l : List (Str × α)}, (l.map (·.1)).Nodup → (x, a) ∈ l → l.lookup x = some a
  | (k, v) :: r, nd, h => by
    rw [List.map_cons, List.nodup_cons] at nd
    rw [List.lookup_cons]
    rcases List.mem_cons.mp h with e | h
    · cases e; rw [beq_self_eq_true]
    · have : (x == k) = false := by
        cases q : x == k with
        | false => rfl
        | true =>
          have e : x = k := by simpa using q
          exact absurd (List.mem_map.mpr ⟨_, h, e⟩) nd.1
      rw [this]
      exact nodup_lookup nd.2 h

section
variable {X : Cx} {pins : List (Addr × Obj)} {σ : St} {H : Hp} {s : Shared} {N' : List Str} {ix : List (Option Nat)} {sc : Scope} {ex : List Addr}

/-- a cell that the block sees: an outer one or a new one -/
theorem cells_of (S : CompScope X N' ix sc) {C : Addr} {x : Str} {c : Addr} (h : (compEnv sc C X.env).cells.lookup x = some c) (ok : X.Ok) :
    (X.env.cells.lookup x = some c ∧ sc.names.lookup x = some .free) ∨ (C + 1 ≤ c ∧ sc.names.lookup x = some .cell) := by
  rcases cellsFrom_mem (mem_of_lookup h) with q | ⟨q1, q2⟩
  · rcases clFrom_mem q with q | ⟨q1, q2⟩
    · exact absurd q (by simp)
    · obtain ⟨c', hc⟩ := ok.has x (S.free _ q1 rfl)
      rw [hc] at q2
      exact .inl ⟨by rw [hc, q2]; rfl, nodup_lookup S.uniq q1⟩
  · exact .inr ⟨q1, nodup_lookup S.uniq q2⟩

theorem comp_look (S : CompScope X N' ix sc) (I : Inv X pins σ H s) (C : Addr) {i : Nat} {x : Str} {v : V} (h1 : N'[i]? = some x) (h2 : (capt ix σ)[i]? = some (some v)) :
    ∃ u c, RelV v u ∧ ((compEnv sc C X.env).kindOf x = some .cell ∨ (compEnv sc C X.env).kindOf x = some .free) ∧ (compEnv sc C X.env).cells.lookup x = some c ∧ X.env.cells.lookup x = some c ∧ s.heap.IsCell c (some u) := by
  have h2' : (ix.map fun o => o.bind fun j => (σ[j]?).join)[i]? = some (some v) := h2
  rw [List.getElem?_map] at h2'
  cases e : ix[i]? with
  | none => rw [e] at h2'; cases h2'
  | some o =>
    rw [e] at h2'
    cases o with
    | none => cases h2'
    | some j =>
      have h4 : (σ[j]?).join = some v := Option.some.inj h2'
      have h5 : σ[j]? = some (some v) := by
        cases q : σ[j]? with
        | none => rw [q] at h4; cases h4
        | some o => rw [q] at h4; exact congrArg some h4
      obtain ⟨x', n1, n2, n3⟩ := S.at_ i j e
      rw [n1] at h1
      cases h1
      have kx := S.free _ (mem_of_lookup n3) rfl
      obtain ⟨m, hn, hl⟩ := I.loc
      have vis : Vis X.env.scope x := by
        rcases kx with k | k
        · exact .inr (.inl k)
        · exact .inr (.inr k)
      obtain ⟨u, r, l⟩ := hl j x v n2 h5 vis
      rcases l with ⟨k, _⟩ | ⟨k, c, hc, z⟩
      · rcases kx with k' | k' <;> (rw [k] at k'; cases k')
      · obtain ⟨k', q, z'⟩ := lookup_relabel_of (env := X.env) (names := sc.names) n3
        have : ((cellsFrom (C + 1) sc.names (clFrom X.env.cells sc.names [])).lookup x).isSome = true := PySem.W.cellsFrom_some _ _ _ (.inr (clFrom_has (.inl (mem_of_lookup n3))))
        obtain ⟨c', hc'⟩ := Option.isSome_iff_exists.mp this
        have ec : c = c' := by
          rcases cells_of S (C := C) hc' I.ok with ⟨q1, _⟩ | ⟨_, q2⟩
          · rw [hc] at q1; exact Option.some.inj q1
          · rw [n3] at q2; cases q2
        subst ec
        refine ⟨u, c, r, ?_, hc', hc, z⟩
        show (relabel sc X.env).names.lookup x = some .cell ∨ (relabel sc X.env).names.lookup x = some .free
        rcases z' with z' | ⟨_, z'⟩
        · exact .inr (z' ▸ q)
        · exact .inl (z' ▸ q)

theorem comp_start (S : CompScope X N' ix sc) (I : Inv X pins σ H s) (hf : ∀ b ∈ ex, FpOk X pins H b) (he : ∀ b ∈ ex, ∃ o, s.heap.get? b = some o) :
    Inv (cxComp X N' sc s.heap.objs.size s H ex) [] (capt ix σ) H { s with heap := pushCells (s.heap.push { cls := .type "dict", data := .dict #[] }) sc.names } := by
  have keep : ∀ b o, s.heap.get? b = some o → (pushCells (s.heap.push { cls := .type "dict", data := .dict #[] }) sc.names).get? b = some o := fun b o e => pushCells_keeps _ _ _ _ (Heap.get?_push_of_some _ e)
  have ltC : ∀ x c, X.env.cells.lookup x = some c → c < s.heap.objs.size := fun x c e => by obtain ⟨v, q⟩ := I.cell x c e; exact q.lt
  have ltE : ∀ b ∈ ex, b < s.heap.objs.size := fun b hb => by obtain ⟨o, e⟩ := he b hb; exact Heap.lt_size e
  have ok : (cxComp X N' sc s.heap.objs.size s H ex).Ok := by
    refine ⟨I.ok.mod, S.kind, I.ok.glob, I.ok.blt, Nat.le_refl _, fun x y c h1 h2 => ?_, fun x hx => ?_, fun x c hx hc => ?_, I.ok.hd, I.ok.frames, .inl rfl, fun b hb => ⟨Nat.ne_of_lt (ltE b hb), fun x c h z => ?_⟩, I.bs, Nat.le_trans I.ok.bsz I.sz, fun b o e hb => ?_, fun b hb hm => ?_, I.stack, I.stkFree⟩
    · have l : ∀ p ∈ clFrom X.env.cells sc.names [], p.2 < s.heap.objs.size + 1 := fun p hp => by
        obtain ⟨px, pc⟩ := p
        rcases clFrom_mem hp with q | ⟨q1, q2⟩
        · exact absurd q (by simp)
        · obtain ⟨c', hc⟩ := I.ok.has px (S.free _ q1 rfl)
          rw [hc] at q2
          have := ltC _ _ hc
          show pc < _
          rw [q2]
          exact Nat.lt_succ_of_lt this
      rcases cellsFrom_inj l (mem_of_lookup h1) (mem_of_lookup h2) with ⟨a, b⟩ | e
      · rcases cells_of S h1 I.ok with ⟨q, _⟩ | ⟨q, _⟩
        · rcases cells_of S h2 I.ok with ⟨q', _⟩ | ⟨q', _⟩
          · exact I.ok.inj _ _ _ q q'
          · exact absurd (Nat.lt_of_lt_of_le (ltC _ _ q) (Nat.le_of_succ_le q')) (Nat.lt_irrefl _)
        · exact absurd (l _ a) (Nat.not_lt.mpr q)
      · exact e
    · have hx' : (relabel sc X.env).names.lookup x = some .cell ∨ (relabel sc X.env).names.lookup x = some .free := hx
      have : sc.names.lookup x = some .cell ∨ sc.names.lookup x = some .free := by
        rcases hx' with q | q
        · obtain ⟨k, e, z⟩ := lookup_relabel (names := sc.names) q
          rcases z with z | ⟨z, _⟩
          · exact .inl (z ▸ e)
          · exact .inr (z ▸ e)
        · obtain ⟨k, e, z⟩ := lookup_relabel (names := sc.names) q
          rcases z with z | ⟨_, z⟩
          · exact .inr (z ▸ e)
          · cases z
      refine Option.isSome_iff_exists.mp ?_
      show ((cellsFrom (s.heap.objs.size + 1) sc.names (clFrom X.env.cells sc.names [])).lookup x).isSome = true
      rcases this with q | q
      · exact PySem.W.cellsFrom_some _ _ _ (.inl q)
      · exact PySem.W.cellsFrom_some _ _ _ (.inr (clFrom_has (.inl (mem_of_lookup q))))
    · have hx' : sc.names.lookup x = some .cell := of_decide_eq_true hx
      rcases cells_of S hc I.ok with ⟨_, q⟩ | ⟨q, _⟩
      · rw [hx'] at q; cases q
      · exact Nat.le_of_succ_le q
    · rcases cells_of S h I.ok with ⟨q, _⟩ | ⟨q, _⟩
      · exact (hf b hb).2.2.2.2.1 x c q z
      · exact absurd (Nat.lt_of_lt_of_le (ltE b hb) (Nat.le_of_succ_le (z ▸ q))) (Nat.lt_irrefl _)
    · rcases (hf b hb).2.2.2.1 with z | z
      · exact I.ok.noex b o e z
      · exact absurd (Nat.lt_of_lt_of_le (Heap.lt_size e) (Nat.le_trans I.ok.bsz z)) (Nat.lt_irrefl _)
    · rcases List.mem_cons.mp (I.stkSub b hm) with z | z
      · exact (hf b hb).2.1 z
      · exact (hf b hb).2.2.1 z
  refine ⟨ok, rfl, I.bare, Un.kept keep, ⟨fun _ => none, ?_, fun i x v h1 h2 h3 => ?_⟩, fun x c h => ?_, I.hok.fresh (Nat.le_refl _), fun x c h => ?_, fun p hp => absurd (show p ∈ ([] : List (Addr × Obj)) from hp) (by simp), I.hok.kept keep, ?_⟩
  · exact (Heap.Ns.new s.heap (.type "dict")).keeps fun b o e => pushCells_keeps _ _ _ _ e
  · obtain ⟨u, c, r, k, hc, _, z⟩ := comp_look S I s.heap.objs.size h1 h2
    exact ⟨u, r, .inr ⟨k, c, hc, z.keeps keep⟩⟩
  · rcases cells_of S h I.ok with ⟨q, _⟩ | ⟨q, _⟩
    · obtain ⟨v, z⟩ := I.cell x c q
      exact ⟨v, z.keeps keep⟩
    · have h' : (x, c) ∈ cellsFrom (s.heap.push { cls := .type "dict", data := .dict #[] }).objs.size sc.names (clFrom X.env.cells sc.names []) := by rw [Heap.size_push]; exact mem_of_lookup h
      rcases pushCells_cell h' with z | z
      · rcases clFrom_mem z with z | ⟨z1, z2⟩
        · exact absurd z (by simp)
        · obtain ⟨c', hc⟩ := I.ok.has x (S.free _ z1 rfl)
          rw [hc] at z2
          have := ltC _ _ hc
          rw [show c = c' from z2] at q
          exact absurd (Nat.lt_of_lt_of_le this (Nat.le_of_succ_le q)) (Nat.lt_irrefl _)
      · exact ⟨none, z⟩
  · rcases cells_of S h I.ok with ⟨q, _⟩ | ⟨q, _⟩
    · exact I.freeC x c q
    · exact I.hok.fresh (Nat.le_of_succ_le q)
  · show (ix.map _).length = N'.length
    rw [List.length_map]; exact S.len

/-- the target's names are forgotten, the free ones hold what they held -/
theorem comp_back {H' : Hp} {s' : Shared} {σ' : St} {ps : List (Addr × Obj)} (S : CompScope X N' ix sc) (I : Inv X pins σ H s) (hf : ∀ b ∈ ex, FpOk X pins H b)
    (J : Inv (cxComp X N' sc s.heap.objs.size s H ex) ps σ' H' s') : Inv (cxComp X N' sc s.heap.objs.size s H ex) [] (capt ix σ) H' s' := by
  obtain ⟨m, hn, _⟩ := J.loc
  refine ⟨J.ok, J.os, J.bare, J.base, ⟨m, hn, fun i x v h1 h2 h3 => ?_⟩, J.cell, J.free, J.freeC, fun p hp => absurd (show p ∈ ([] : List (Addr × Obj)) from hp) (by simp), J.hok, ?_⟩
  · obtain ⟨u, c, r, k, hc, hx, ⟨o, ho, hd⟩⟩ := comp_look S I s.heap.objs.size h1 h2
    have u1 : Un (frs X.stack) ex H H' s.heap s'.heap := J.base
    obtain ⟨sl, q⟩ := u1.any ho (I.freeC x c hx) fun z => (hf c z).2.2.2.2.1 x c hx rfl
    exact ⟨u, r, .inr ⟨k, c, hc, _, q, hd⟩⟩
  · show (ix.map _).length = N'.length
    rw [List.length_map]; exact S.len

/-- the block is left: the outer state again -/
theorem comp_leave {H' : Hp} {s' : Shared} {h' : Heap} {σ' : St} {ps : List (Addr × Obj)} (I : Inv X pins σ H s) (hf : ∀ b ∈ ex, FpOk X pins H b)
    (J : Inv (cxComp X N' sc s.heap.objs.size s H ex) ps σ' H' s') (hs : Heap.SameBut s.heap.objs.size s'.heap h') : Inv X pins σ H' { s' with heap := h' } := by
  have u : Un (frs X.stack) ex H H' s.heap s'.heap := J.base
  have ne : ∀ b o, s.heap.get? b = some o → b ≠ s.heap.objs.size := fun b o e => Nat.ne_of_lt (Heap.lt_size e)
  have g : ∀ b, b ≠ s.heap.objs.size → h'.get? b = s'.heap.get? b := fun b hb => hs.2 b hb
  have hC : H' s.heap.objs.size = none := J.free
  refine I.call' (s' := { s' with heap := h' }) (ch := ex) J.os ⟨fun b o e n hb hx => ?_, fun b o e n hb hx => ?_, u.free, fun b o e hx => ?_, u.tups, u.frzs, u.tbls⟩ (fun b o e => ?_) J.bare fun b hb => ?_
  · exact (g b (ne b o e)).trans (u.keep b o e n hb hx)
  · obtain ⟨sl, q⟩ := u.slot b o e n hb hx
    exact ⟨sl, (g b (ne b o e)).trans q⟩
  · obtain ⟨o', q⟩ := u.there b o e hx
    exact ⟨o', (g b (ne b o e)).trans q⟩
  · refine (J.hok b o e).stay (fun c v hc q => (g c ?_).trans q) (fun _ q => q) fun _ _ q => q
    rintro rfl
    rcases hc with z | z
    · rw [← z, hC] at e; cases e
    · rw [hC] at z; cases z
  · obtain ⟨f0, f1, f2, f3, f4, f5⟩ := hf b hb
    exact ⟨f3, f1, f4, f5⟩
end

def PF (X : Cx) (ifs : List Expr) (t : TT) : Prop :=
  ∀ (pins : List (Addr × Obj)) (s : Shared) (σ : St) (H : Hp) (Q : Bool → Hp → Prop), Inv X pins σ H s → t σ H Q →
    wpAny (model X.prog X.w) X.A (forIn ifs true fun c r => if r = true then do let ok ← isTrue c X.env (eval c X.env); pure (ForInStep.yield ok) else pure (ForInStep.yield r)) (TP X pins σ Q) X.xe s
def tYes : TT := fun _ H Q => Q true H
theorem pf_nil {X : Cx} : PF X [] tYes := fun _ _ _ H _ I h => wpAny_tests_nil ⟨H, I, h⟩
theorem compLoop_any {prog : Program} {w : World} {A : Around} {R : Result → Shared → Prop} {s : Shared} {elt target iter : Expr} {ifs : List Expr} {scope : Scope} {pos : Pos} {it acc : Value} {env : Env} (I : Nat → Shared → Prop)
    (turn : ∀ n s, I n s → wpAny (model prog w) A (pyNext it) (fun r s₁ => match r with
      | none => R (.ok .next) s₁
      | some v => wpAny (model prog w) A (letOwnedTupleGo target it v) (fun _ s₀ => wpAny (model prog w) A (assign target env v) (fun _ s₂ =>
          wpAny (model prog w) A (forIn ifs true fun c r => if r = true then do let ok ← isTrue c env (eval c env); pure (ForInStep.yield ok) else pure (ForInStep.yield r)) (fun ok s₃ =>
            if ok = true then wpAny (model prog w) A (eval elt env) (fun x s₄ =>
              wpAny (model prog w) A (call (.builtin "list.append") [acc, x]) (fun _ s₅ => ∃ m, m < n ∧ I m s₅) (fun _ _ => False) s₄) (fun _ _ => False) s₃
            else ∃ m, m < n ∧ I m s₃) (fun _ _ => False) s₂) (fun _ _ => False) s₀) (fun _ _ => False) s₁) (fun _ _ => False) s)
    (n : Nat) (h : I n s) :
    codeAny (model prog w) A (.compLoop (.ListComp elt [⟨target, iter, ifs, 0⟩] scope pos) 0 it acc env) R s := by
  refine codeAny_loop rfl I (fun n s hI => ?_) n h
  show wpAny _ A ((compTurn (.ListComp elt [⟨target, iter, ifs, 0⟩] scope pos) 0 it acc env).onRaise (fun x => do noteFrame x env; theTreesLotGoes x)) _ _ s
  refine wpAny_noted ?_
  rw [compTurn_list]
  refine wpAny_bind (wpAny_standAt (wpAny_bind (wpAny_mono (turn n s hI) (fun r s₁ h₁ => ?_) fun _ _ z => z.elim)))
  cases r with
  | none => exact wpAny_pure h₁
  | some v =>
    refine wpAny_bind (wpAny_mono h₁ (fun _ s₀ h₀ => ?_) fun _ _ z => z.elim)
    refine wpAny_bind (wpAny_mono h₀ (fun _ s₂ h₂ => wpAny_bind (wpAny_mono h₂ (fun ok s₃ h₃ => ?_) fun _ _ z => z.elim)) fun _ _ z => z.elim)
    cases ok with
    | false => exact wpAny_pure ⟨rfl, h₃⟩
    | true =>
      exact wpAny_bind (wpAny_bind (wpAny_mono h₃ (fun x s₄ h₄ => wpAny_bind (wpAny_mono h₄ (fun _ s₅ h₅ => wpAny_pure (wpAny_pure ⟨rfl, h₅⟩)) fun _ _ z => z.elim)) fun _ _ z => z.elim))

/-- what a comprehension's reading asks behind its iterator J: W by the turn, a measure, the items so far -/
def CompW (J : It) (ix : List (Option Nat)) (g : TG) (tf : TT) (te : TE) (σ : St) (H1 : Hp) (Q : Addr → Hp → Prop) : Prop :=
  ∀ D, H1 D = none → ∃ W : Nat → Nat → List V → Hp → Prop, (∃ m, W 0 m [] (upd H1 D (.lst []))) ∧ ∀ i m ys H2, W i m ys H2 → H2 D = some (.lst ys) →
    (J.stop i H2 ∧ Q D H2) ∨ (J.go i H2 ∧ ∀ x H3, J.yld i H2 x H3 → g x (capt ix σ) H3 fun σ4 H4 => tf σ4 H4 fun b H5 =>
      if b = true then te σ4 H5 fun v H6 => H6 D = some (.lst ys) ∧ ys.length < sizeLine ∧ ∃ m', m' < m ∧ W (i + 1) m' (ys ++ [v]) (upd H6 D (.lst (ys ++ [v])))
      else H5 D = some (.lst ys) ∧ ∃ m', m' < m ∧ W (i + 1) m' ys H5)
def tComp (wi : TI) (ix : List (Option Nat)) (g : TG) (tf : TT) (te : TE) : TE := fun σ H Q => wi σ H fun J H1 => CompW J ix g tf te σ H1 fun D H2 => Q (.ref D) H2

section
variable {X : Cx} {N' : List Str} {ix : List (Option Nat)} {sc : Scope} {elt tg iter : Expr} {ifs : List Expr} {wi : TI} {g : TG} {tf : TT} {te : TE} {pos : Pos}

set_option maxHeartbeats 1000000 in
/-- the block, from the iterator on -/
theorem comp_block (S : CompScope X N' ix sc) (hc : X.calm = true)
    (hg : ∀ C s₀ H₀ ex, PG (cxComp X N' sc C s₀ H₀ ex) tg g) (hf : ∀ C s₀ H₀ ex, PF (cxComp X N' sc C s₀ H₀ ex) ifs tf) (he : ∀ C s₀ H₀ ex, PE (cxComp X N' sc C s₀ H₀ ex) elt te)
    {pins : List (Addr × Obj)} {σ : St} {s2 : Shared} {itv : Value} {Q : Addr → Hp → Prop} {E : Value → Shared → Prop} {RR : Value → Addr → Result → Shared → Prop}
    (h2 : PIE X pins σ tg (fun J H1 => CompW J ix g tf te σ H1 Q) itv s2)
    (hR : ∀ (D C : Addr) (H3 H' : Hp) (s3 s' : Shared) (σ' : St) (ex : List Addr) (ps : List (Addr × Obj)), C = s3.heap.objs.size → Inv X pins σ H3 s3 → (∀ b ∈ ex, FpOk X pins H3 b) → Inv (cxComp X N' sc s3.heap.objs.size s3 H3 ex) ps σ' H' s' → Q D H' → RR (.ref D) C (.ok .next) s') :
    wpAny (model X.prog X.w) X.A (newList []) (fun acc s₃ => wpAny (model X.prog X.w) X.A (newFunctionEnv sc X.env.globals (clFrom X.env.cells sc.names []) [] X.env.qual none .none (some X.env)) (fun cenv s₄ =>
      codeAny (model X.prog X.w) X.A (.compStart (.ListComp elt [⟨tg, iter, ifs, 0⟩] sc pos) 0 itv acc { cenv with scope := relabel sc X.env }) (RR acc cenv.locals) s₄) E s₃) E s2 := by
  obtain ⟨it, fp, tn, J, H2, rfl, I2, T, st2, f2, cw⟩ := h2
  obtain ⟨W, ⟨m0, w0⟩, turn⟩ := cw s2.heap.objs.size I2.fresh
  refine wpAny_newObj_type ?_
  generalize hs3 : ({ s2 with heap := s2.heap.push { cls := .type "list", dict := none, data := .seq ([] : List Value).toArray } } : Shared) = s3
  have I3 : Inv X pins σ (upd H2 s2.heap.objs.size (.lst [])) s3 := by
    rw [← hs3]
    exact I2.lnew (its := []) (t' := s2.toks) .nil (Nat.zero_le _)
  have k23 : ∀ b o, s2.heap.get? b = some o → s3.heap.get? b = some o := fun b o e => by rw [← hs3]; exact Heap.get?_push_of_some _ e
  have fD : ∀ b ∈ fp, b ≠ s2.heap.objs.size := fun b hb => by
    obtain ⟨o, e, _⟩ := T.obj _ _ st2 b hb
    exact Nat.ne_of_lt (Heap.lt_size e)
  have f3 : ∀ b ∈ fp, FpOk X pins (upd H2 s2.heap.objs.size (.lst [])) b := fun b hb => ⟨by rw [upd_ne (fD b hb)]; exact (f2 b hb).1, (f2 b hb).2⟩
  have st3 : tn 0 s3.heap := T.keep _ _ _ st2 fun b _ o e => k23 b o e
  have e3 : ∀ b ∈ fp, ∃ o, s3.heap.get? b = some o := fun b hb => by
    obtain ⟨o, e, _⟩ := T.obj _ _ st3 b hb
    exact ⟨o, e⟩
  refine newEnv_comp ?_
  have J4 := comp_start (ex := fp) S I3 f3 e3
  have k34 : ∀ b o, s3.heap.get? b = some o → (pushCells (s3.heap.push { cls := .type "dict", data := .dict #[] }) sc.names).get? b = some o := fun b o e => pushCells_keeps _ _ _ _ (Heap.get?_push_of_some _ e)
  generalize hs4 : ({ s3 with heap := pushCells (s3.heap.push { cls := .type "dict", data := .dict #[] }) sc.names } : Shared) = s4 at J4
  have st4 : tn 0 s4.heap := by rw [← hs4]; exact T.keep _ _ _ st3 fun b _ o e => k34 b o e
  show codeAny (model X.prog X.w) X.A (.compStart (.ListComp elt [⟨tg, iter, ifs, 0⟩] sc pos) 0 (.ref it) (.ref s2.heap.objs.size) (compEnv sc s3.heap.objs.size X.env)) (RR (.ref s2.heap.objs.size) s3.heap.objs.size) s4
  generalize hY : cxComp X N' sc s3.heap.objs.size s3 (upd H2 s2.heap.objs.size (.lst [])) fp = Y at J4
  have yP : Y.prog = X.prog := by rw [← hY]; rfl
  have yw : Y.w = X.w := by rw [← hY]; rfl
  have yK : Y.K = X.K := by rw [← hY]; rfl
  have yA : Y.A = X.A := by rw [← hY]; rfl
  have ye : Y.env = compEnv sc s3.heap.objs.size X.env := by rw [← hY]; rfl
  have yx : Y.xe = fun _ _ => False := by rw [← hY]; rfl
  have yc : Y.calm = true := by rw [← hY]; exact hc
  have yfs : Y.fs = frs X.stack := by rw [← hY]; rfl
  have yex : Y.ex = fp := by rw [← hY]; rfl
  have ypn : Y.pn = [] := by rw [← hY]; rfl
  have yl : Y.env.locals = s3.heap.objs.size := by rw [ye]; rfl
  have hgY : PG Y tg g := by rw [← hY]; exact hg _ _ _ _
  have hfY : PF Y ifs tf := by rw [← hY]; exact hf _ _ _ _
  have heY : PE Y elt te := by rw [← hY]; exact he _ _ _ _
  have okY := J4.ok
  have stat : ∀ {H' : Hp}, (∀ b ∈ fp, H' b = none) → ∀ b ∈ fp, FpOk Y [] H' b := fun hn b hb => by
    have x := okY.exf b (by rw [yex]; exact hb)
    exact ⟨hn b hb, x.1, okY.exfs b (by rw [yex]; exact hb), .inl (by rw [yex]; exact hb), x.2, fun p hp => by rw [ypn] at hp; exact absurd hp (by simp)⟩
  have loop : codeAny (model X.prog X.w) X.A (.compLoop (.ListComp elt [⟨tg, iter, ifs, 0⟩] sc pos) 0 (.ref it) (.ref s2.heap.objs.size) (compEnv sc s3.heap.objs.size X.env)) (RR (.ref s2.heap.objs.size) s3.heap.objs.size) s4 := by
    refine compLoop_any (fun n s' => ∃ i ys H', Inv Y [] (capt ix σ) H' s' ∧ tn i s'.heap ∧ (∀ b ∈ fp, H' b = none) ∧ H' s2.heap.objs.size = some (.lst ys) ∧ W i n ys H') ?_ m0 ⟨0, [], _, J4, st4, fun b hb => (f3 b hb).1, upd_same, w0⟩
    rintro n s5 ⟨i, ys, H5, I5, st5, fr5, hD5, w5⟩
    have lenc : (capt ix σ).length = Y.N.length := J4.len
    rcases turn i n ys H5 w5 hD5 with ⟨stop, q⟩ | ⟨go, step⟩
    · have r := T.done Y yP yw yK yc i [] s5 (capt ix σ) H5 (fun _ _ => False) I5 (stat fr5) st5 stop
      rw [yA] at r
      refine thn r fun r s6 ⟨hr, I6⟩ => ?_
      subst hr
      refine hR _ _ _ H5 s3 s6 (capt ix σ) fp [] rfl I3 f3 ?_ q
      rw [hY]; exact I6
    · have r := T.item Y yP yw yK yc i [] s5 (capt ix σ) H5 (fun _ _ => False) I5 (stat fr5) st5 go
      rw [yA] at r
      refine thn r fun r s6 ⟨u, hr, h6⟩ => ?_
      subst hr
      refine thn h6 fun _ s7 ⟨x, H7, I7, r7, y7, st7, fr7⟩ => ?_
      have I7' := I7.pinned (stat fr7) (T.obj _ _ st7)
      have r2 := hgY _ s7 (capt ix σ) H7 x u _ I7' r7 (step x H7 y7)
      rw [yP, yw, yA, ye, yx] at r2
      refine thn r2 fun _ s8 ⟨σ8, H8, I8, q8⟩ => ?_
      have r3 := hfY _ s8 σ8 H8 _ I8 q8
      rw [yP, yw, yA, ye, yx] at r3
      refine thn r3 fun ok s9 ⟨H9, I9, q9⟩ => ?_
      have again : ∀ {s10 : Shared} {σ10 : St} {H10 : Hp}, Inv Y ([] ++ pinsAt fp s7.heap) σ10 H10 s10 → σ10.length = Y.N.length → Inv Y [] (capt ix σ) H10 s10 → tn (i + 1) s10.heap ∧ ∀ b ∈ fp, H10 b = none := fun {s10 σ10 H10} J _ _ => by
        have p := fun b hb o e => J.pin (b, o) (List.mem_append_right _ (List.mem_append_right _ (mem_pinsAt (fp := fp) (h := s7.heap) (b := b) (o := o) hb e)))
        refine ⟨T.keep _ _ _ st7 fun b hb o e => (p b hb o e).1, fun b hb => ?_⟩
        obtain ⟨o, e, d⟩ := T.obj _ _ st7 b hb
        exact (p b hb o e).2.1
      -- the block's free names still hold what they held: their cells are the outer frame's
      have back : ∀ {s10 : Shared} {H10 : Hp}, Inv Y ([] ++ pinsAt fp s7.heap) σ8 H10 s10 → Inv Y [] (capt ix σ) H10 s10 := fun {s10 H10} J => by
        rw [← hY] at J ⊢
        exact comp_back S I3 f3 J
      cases ok with
      | false =>
        rw [if_neg (by decide)] at q9 ⊢
        obtain ⟨hD9, m', hm, w9⟩ := q9
        have B := back I9
        have z := again I9 I9.len B
        exact ⟨m', hm, i + 1, ys, H9, B, z.1, z.2, hD9, w9⟩
      | true =>
        rw [if_pos rfl] at q9 ⊢
        have r4 := heY _ s9 σ8 H9 _ I9 q9
        rw [yP, yw, yA, ye, yx] at r4
        refine thn r4 fun v s10 ⟨y, H10, I10, r10, hD10, hz, m', hm, w10⟩ => ?_
        have r5 := mt_append (X := Y) _ s10 σ8 H10 (.ref s2.heap.objs.size) [y] (.ref s2.heap.objs.size) [v] (fun _ H11 => H11 = upd H10 s2.heap.objs.size (.lst (ys ++ [y]))) I10 rfl (.cons r10 .nil) ⟨_, ys, y, rfl, rfl, hD10, hz, rfl⟩
        rw [yP, yw, yA, yx] at r5
        refine thn r5 fun _ s11 ⟨_, H11, I11, _, e11⟩ => ?_
        subst e11
        have B := back I11
        have z := again I11 I11.len B
        exact ⟨m', hm, i + 1, ys ++ [y], _, B, z.1, z.2, upd_same, w10⟩
  exact codeAny_compStart_list loop (T.self _ 0 _ _ _ st4 loop)

theorem pe_comp (S : CompScope X N' ix sc) (hc : X.calm = true) (hi : PI X tg iter wi)
    (hg : ∀ C s₀ H₀ ex, PG (cxComp X N' sc C s₀ H₀ ex) tg g) (hf : ∀ C s₀ H₀ ex, PF (cxComp X N' sc C s₀ H₀ ex) ifs tf) (he : ∀ C s₀ H₀ ex, PE (cxComp X N' sc C s₀ H₀ ex) elt te)
    (hs : ∀ x, foldedSetIterable iter X.env x = pure x := by intro _; rfl) : PE X (.ListComp elt [⟨tg, iter, ifs, 0⟩] sc pos) (tComp wi ix g tf te) := by
  intro pins s σ H Q I h
  rw [eval_ListComp]
  have hcl : closureFor sc X.env = pure (clFrom X.env.cells sc.names []) := closure_eq fun x hx hk => I.ok.has x.1 (S.free x hx hk)
  have hnames : ∀ x ∈ sc.names, x.2 = .local → sc.names.lookup x.1 = some .local := fun x hx hk => nodup_lookup S.uniq (by rw [← hk]; exact hx)
  refine wpAny_comprehension_free (use := none) rfl hs hcl S.kind hnames (thn (hi pins s σ H _ I h) fun v s1 h1 => thn h1 fun itv s2 h2 => ?_)
  refine comp_block S hc hg hf he (RR := fun acc C => compPost (model X.prog X.w) X.A X.xe none (EP X pins σ Q) acc C) h2 ?_
  intro D C H3 H' s3 s' σ' ex ps eC I3 f3 J q
  subst eC
  obtain ⟨m, hn, _⟩ := J.loc
  exact ⟨m, hn, fun h' hs' => ⟨.ref D, H', comp_leave I3 f3 J hs', rfl, q⟩⟩

/-- name = [..] where the stores are exchanged -/
def tSetComp (i : Nat) (wi : TI) (ix : List (Option Nat)) (g : TG) (tf : TT) (te : TE) : TS := fun D σ H => wi σ H fun J H1 => CompW J ix g tf te σ H1 fun a H2 => D.nx (σ.set i (some (.ref a))) H2
theorem ps_setComp {i : Nat} {y : Str} {py spos : Pos} (hN : X.N.Nodup) (hy : X.N[i]? = some y) (hL : Loc X.env.scope y) (S : CompScope X N' ix sc) (hc : X.calm = true) (hi : PI X tg iter wi)
    (hg : ∀ C s₀ H₀ ex, PG (cxComp X N' sc C s₀ H₀ ex) tg g) (hf : ∀ C s₀ H₀ ex, PF (cxComp X N' sc C s₀ H₀ ex) ifs tf) (he : ∀ C s₀ H₀ ex, PE (cxComp X N' sc C s₀ H₀ ex) elt te)
    (hsw : swapsWith (.ListComp elt [⟨tg, iter, ifs, 0⟩] sc pos) (some (.Name y py)) spos.line X.env = pure true := by rfl)
    (hs : ∀ x, foldedSetIterable iter X.env x = pure x := by intro _; rfl)
    (hfn : X.fn y = true ∨ X.env.scope.names.lookup y = some .local := by first | exact .inl rfl | exact .inr rfl | assumption) :
    PS X (.Assign [.Name y py] (.ListComp elt [⟨tg, iter, ifs, 0⟩] sc pos) spos) (tSetComp i wi ix g tf te) := by
  intro pins s σ H D I h
  rw [exec_Assign_Name_used _ _ _ _ hsw]
  refine wpAny_bind (wpAny_standAt (wpAny_bind ?_))
  show wpAny _ X.A (do let _ ← comprehension (.ListComp elt [⟨tg, iter, ifs, 0⟩] sc pos) sc X.env _ (newList []) false (eval iter X.env) (some (assign (.Name y py) X.env))) _ _ s
  have hcl : closureFor sc X.env = pure (clFrom X.env.cells sc.names []) := closure_eq fun x hx hk => I.ok.has x.1 (S.free x hx hk)
  have hnames : ∀ x ∈ sc.names, x.2 = .local → sc.names.lookup x.1 = some .local := fun x hx hk => nodup_lookup S.uniq (by rw [← hk]; exact hx)
  refine wpAny_bind (wpAny_mono (wpAny_comprehension_free (use := some (assign (.Name y py) X.env)) (Q := fun _ s' => SP X pins D .next s') rfl hs hcl S.kind hnames
    (thn (hi pins s σ H _ I h) fun v s1 h1 => thn h1 fun itv s2 h2 => ?_)) (fun _ s' hq => wpAny_pure (wpAny_pure hq)) fun _ _ e => e)
  refine comp_block S hc hg hf he (RR := fun acc C => compPost (model X.prog X.w) X.A X.xe (some (assign (.Name y py) X.env)) (fun _ s' => SP X pins D .next s') acc C) h2 ?_
  intro a C H3 H' s3 s' σ' ex ps eC I3 f3 J q
  subst eC
  obtain ⟨m, hn, _⟩ := J.loc
  have I5 : Inv X pins σ H' { s' with heap := s'.heap } := comp_leave I3 f3 J (Heap.SameBut.refl _ _)
  have neL : X.env.locals ≠ s3.heap.objs.size := Nat.ne_of_lt I3.lt
  have neC : ∀ x c, X.env.cells.lookup x = some c → c ≠ s3.heap.objs.size := fun x c e => by
    obtain ⟨v, z⟩ := I3.cell x c e
    exact Nat.ne_of_lt z.lt
  show wpAny (model X.prog X.w) X.A (assign (.Name y py) X.env (.ref a)) _ X.xe s'
  refine wpAny_assign_Name (store_ok2 (v := .ref a) I5 hN hy hL rfl (fun s6 I6 hb => ?_) hfn)
  obtain ⟨b, sb, hb⟩ := hb
  have nb : s3.heap.objs.size ≠ b := by
    rcases hb with z | z
    · rw [z]; exact Ne.symm neL
    · exact Ne.symm (neC _ _ z)
  refine ⟨m, hn.sameBut sb nb, fun h' hs' => ?_⟩
  refine ⟨_, H', I6.turned (t' := s6.toks) (it := s3.heap.objs.size) (fun b o hb e => (hs'.2 b hb).trans e) J.free (Ne.symm neL) (.inr I3.sz) neC (fun p hp z => ?_), q⟩
  have := (I3.pin p hp).1
  exact absurd (Heap.lt_size this) (by rw [z]; exact Nat.lt_irrefl _)
end

def compOk (on : List (Str × NameKind)) (N N' : List Str) (ix : List (Option Nat)) (sc : Scope) : Bool :=
  decide (sc.kind = .function) && decide N'.Nodup && decide (sc.names.map (·.1)).Nodup && decide (ix.length = N'.length) &&
    sc.names.all (fun x => decide (x.2 ≠ .free) || decide (on.lookup x.1 = some .cell) || decide (on.lookup x.1 = some .free)) &&
    (List.range ix.length).all fun i => match ix[i]? with
      | some (some j) => (match N'[i]? with
        | some x => decide (N[j]? = some x) && decide (sc.names.lookup x = some .free)
        | none => false)
      | _ => true
theorem compScope_of {X : Cx} {N' : List Str} {ix : List (Option Nat)} {sc : Scope} (h : compOk X.env.scope.names X.N N' ix sc = true) : CompScope X N' ix sc := by
  unfold compOk at h
  simp only [Bool.and_eq_true, decide_eq_true_eq, List.all_eq_true, Bool.or_eq_true, List.mem_range] at h
  obtain ⟨⟨⟨⟨⟨h1, h2⟩, h3⟩, h4⟩, h5⟩, h6⟩ := h
  refine ⟨h1, h2, h3, h4, fun x hx hk => ?_, fun i j e => ?_⟩
  · rcases h5 x hx with (q | q) | q
    · exact absurd hk q
    · exact .inl q
    · exact .inr q
  · have hi : i < ix.length := (List.getElem?_eq_some_iff.mp e).1
    have q := h6 i hi
    rw [e] at q
    dsimp only at q
    cases e2 : N'[i]? with
    | none => rw [e2] at q; cases q
    | some x =>
      rw [e2] at q
      simp only [Bool.and_eq_true, decide_eq_true_eq] at q
      exact ⟨x, rfl, q.1, q.2⟩

theorem Same.new {H : Hp} {p : Addr} (h : H p = none) (o : HO) : Same H (upd H p o) := fun b u q => by rw [upd_ne (ne_of_none q h)]; exact q
theorem Same.put {H H' : Hp} {p : Addr} (e : Same H H') (h : H p = none) (o : HO) : Same H (upd H' p o) := fun b u q => by rw [upd_ne (ne_of_none q h)]; exact e b u q
theorem Same.tup {K : PySem.W.Frag} {H H' : Hp} {a : Addr} {xs : List V} (e : Same H H') (h : SqT K H a xs) : SqT K H' a xs := by
  rcases h with (h | ⟨o, h⟩) | h
  · exact .inl (.inl (e a _ h))
  · exact .inl (.inr ⟨o, e a _ h⟩)
  · exact .inr h

section
variable {K : PySem.W.Frag} {ix : List (Option Nat)} {g : TG} {tf : TT} {te : TE} {σ : St} {H1 : Hp} {Q : Addr → Hp → Prop}

/-- over a list; Pv: what holds of the items made of the first i -/
theorem comp_list {a : Addr} {xs : List V} (hq : SqL K H1 a xs) (hz : xs.length ≤ sizeLine) (Pv : Nat → List V → Hp → Prop)
    (h0 : ∀ D, H1 D = none → Pv 0 [] (upd H1 D (.lst [])))
    (hs : ∀ D i x ys H (R1 : VK) (R0 : Hp → Prop), H1 D = none → xs[i]? = some x → Same H1 H → H D = some (.lst ys) → Pv i ys H → (∀ v H6, Same H H6 → Pv (i + 1) (ys ++ [v]) (upd H6 D (.lst (ys ++ [v]))) → R1 v H6) →
      (∀ H5, Same H H5 → Pv (i + 1) ys H5 → R0 H5) → g x (capt ix σ) H fun σ4 H4 => tf σ4 H4 fun b H5 => if b = true then te σ4 H5 R1 else R0 H5)
    (hd : ∀ D ys H, H1 D = none → Same H1 H → H D = some (.lst ys) → ys.length ≤ xs.length → Pv xs.length ys H → Q D H) : CompW (Itl K a) ix g tf te σ H1 Q := by
  intro D hD
  refine ⟨fun i m ys H => m = xs.length - i ∧ i ≤ xs.length ∧ Same H1 H ∧ ys.length ≤ i ∧ Pv i ys H, ⟨xs.length, by simp, Nat.zero_le _, Same.new hD _, Nat.le_refl _, h0 D hD⟩, ?_⟩
  rintro i m ys H ⟨rfl, hi, sm, hl, p⟩ hDl
  have q := sm.seq hq
  by_cases hlt : i < xs.length
  · refine .inr ⟨⟨xs, xs[i], q, by simp [hlt]⟩, fun x H3 y => ?_⟩
    obtain ⟨e, y⟩ := y
    subst e
    refine hs D i x ys _ _ _ hD (y xs q) sm hDl p (fun v H6 r1 r2 => ?_) fun H5 r1 r2 => ?_
    · refine ⟨r1 _ _ hDl, by omega, xs.length - (i + 1), by omega, rfl, hlt, (sm.trans r1).put hD _, ?_, r2⟩
      rw [List.length_append, List.length_singleton]; omega
    · exact ⟨r1 _ _ hDl, xs.length - (i + 1), by omega, rfl, hlt, sm.trans r1, by omega, r2⟩
  · have e : i = xs.length := by omega
    subst e
    exact .inl ⟨⟨xs, q, Nat.le_refl _⟩, hd D ys H hD sm hDl hl p⟩
/-- over lo, lo + 1, .. -/
theorem comp_range {lo : Int} {n : Nat} (hz : n ≤ sizeLine) (Pv : Nat → List V → Hp → Prop)
    (h0 : ∀ D, H1 D = none → Pv 0 [] (upd H1 D (.lst [])))
    (hs : ∀ D i ys H (R1 : VK) (R0 : Hp → Prop), H1 D = none → i < n → Same H1 H → H D = some (.lst ys) → Pv i ys H → (∀ v H6, Same H H6 → Pv (i + 1) (ys ++ [v]) (upd H6 D (.lst (ys ++ [v]))) → R1 v H6) →
      (∀ H5, Same H H5 → Pv (i + 1) ys H5 → R0 H5) → g (.int (lo + i)) (capt ix σ) H fun σ4 H4 => tf σ4 H4 fun b H5 => if b = true then te σ4 H5 R1 else R0 H5)
    (hd : ∀ D ys H, H1 D = none → Same H1 H → H D = some (.lst ys) → ys.length ≤ n → Pv n ys H → Q D H) : CompW (Itr lo n) ix g tf te σ H1 Q := by
  intro D hD
  refine ⟨fun i m ys H => m = n - i ∧ i ≤ n ∧ Same H1 H ∧ ys.length ≤ i ∧ Pv i ys H, ⟨n, by simp, Nat.zero_le _, Same.new hD _, Nat.le_refl _, h0 D hD⟩, ?_⟩
  rintro i m ys H ⟨rfl, hi, sm, hl, p⟩ hDl
  by_cases hlt : i < n
  · refine .inr ⟨hlt, fun x H3 y => ?_⟩
    obtain ⟨e, y⟩ := y
    subst e; subst y
    refine hs D i ys _ _ _ hD hlt sm hDl p (fun v H6 r1 r2 => ?_) fun H5 r1 r2 => ?_
    · refine ⟨r1 _ _ hDl, by omega, n - (i + 1), by omega, rfl, hlt, (sm.trans r1).put hD _, ?_, r2⟩
      rw [List.length_append, List.length_singleton]; omega
    · exact ⟨r1 _ _ hDl, n - (i + 1), by omega, rfl, hlt, sm.trans r1, by omega, r2⟩
  · have e : i = n := by omega
    subst e
    exact .inl ⟨Nat.le_refl _, hd D ys H hD sm hDl hl p⟩
theorem take_map_succ {α β : Type} (f : α → β) (xs : List α) (i : Nat) (x : α) (h : xs[i]? = some x) : (xs.take (i + 1)).map f = (xs.take i).map f ++ [f x] := by
  rw [List.take_succ, h]
  simp
/-- each item's value by a function, no test: te answers f x and tracks no less -/
theorem comp_list_map {a : Addr} {xs : List V} {i₀ : Nat} (f : V → V) (hq : SqL K H1 a xs) (hz : xs.length ≤ sizeLine)
    (hs : ∀ (i : Nat) (x : V) (H : Hp) (R : VK), xs[i]? = some x → Same H1 H → (∀ H6, Same H H6 → R (f x) H6) → te ((capt ix σ).set i₀ (some x)) H R)
    (hd : ∀ D H, H1 D = none → Same H1 H → H D = some (.lst (xs.map f)) → Q D H) : CompW (Itl K a) ix (gName i₀) tYes te σ H1 Q := by
  refine comp_list hq hz (fun i ys _ => ys = (xs.take i).map f) (fun D hD => by simp) (fun D i x ys H R1 R0 hD hx sm hDl p k1 k0 => ?_) fun D ys H hD sm hDl hl p => ?_
  · show te ((capt ix σ).set i₀ (some x)) H R1
    exact hs i x H R1 hx sm fun H6 s6 => k1 _ _ s6 (by rw [take_map_succ f xs i x hx, p])
  · refine hd D H hD sm ?_
    rw [hDl, p, List.take_length]
theorem comp_range_map {lo : Int} {n i₀ : Nat} (f : Nat → V) (hz : n ≤ sizeLine)
    (hs : ∀ (i : Nat) (H : Hp) (R : VK), i < n → Same H1 H → (∀ H6, Same H H6 → R (f i) H6) → te ((capt ix σ).set i₀ (some (.int (lo + i)))) H R)
    (hd : ∀ D H, H1 D = none → Same H1 H → H D = some (.lst ((List.range n).map f)) → Q D H) : CompW (Itr lo n) ix (gName i₀) tYes te σ H1 Q := by
  refine comp_range hz (fun i ys _ => ys = (List.range i).map f) (fun D hD => by simp) (fun D i ys H R1 R0 hD hi sm hDl p k1 k0 => ?_) fun D ys H hD sm hDl hl p => ?_
  · show te ((capt ix σ).set i₀ (some (.int (lo + i)))) H R1
    exact hs i H R1 hi sm fun H6 s6 => k1 _ _ s6 (by rw [List.range_succ, List.map_append, p]; rfl)
  · refine hd D H hD sm ?_
    rw [hDl, p]
end
end L2


namespace L2
open PySem PySem.Spec PyProof.Rows

section
variable {X : Cx}

theorem strsAre_of : ∀ {ys : List Str} {us : List Value}, Vals (ys.map V.str) us → StrsAre us ys
  | [], _, h => by cases h; exact .nil
  | y :: ys, _, h => by
    cases h with
    | cons r t =>
      obtain ⟨tk, rfl⟩ := r
      exact .cons y tk (strsAre_of t)

/-- sep.join(xs), xs a list of texts -/
def rJoin (K : PySem.W.Frag) : V → List V → Hp → VK → Prop := fun x vs H Q => ∃ sep a ys, x = .str sep ∧ vs = [.ref a] ∧ SqL K H a (ys.map V.str) ∧ (ys.map (·.length)).sum + ys.length * sep.length ≤ 16777216 ∧ Q (.str (Txt.join sep ys)) H
theorem mt_join : MtR X "str.join" (rJoin X.K) := by
  intro pins s σ H x vs v us Q I rx rv h
  obtain ⟨sep, a, ys, rfl, rfl, hq, hz, q⟩ := h
  obtain ⟨t, rfl⟩ := rx
  obtain ⟨u, rfl, ru⟩ := rv.one
  cases ru
  obtain ⟨its, r, p, _⟩ := I.list hq
  exact join_list p.isList (by simpa using strsAre_of r) hz fun t' k => ⟨.str _, H, I.tok _, ⟨_, rfl⟩, q⟩

/-- x.strip(cs) -/
def rStrip : V → List V → Hp → VK → Prop := fun x vs H Q => ∃ y cs, x = .str y ∧ vs = [.str cs] ∧ y.length ≤ sizeLine ∧ Q (.str (Txt.stripChars y cs)) H
theorem mt_strip : MtR X "str.strip" rStrip := by
  intro pins s σ H x vs v us Q I rx rv h
  obtain ⟨y, cs, rfl, rfl, hz, q⟩ := h
  obtain ⟨t, rfl⟩ := rx
  obtain ⟨u, rfl, t', rfl⟩ := rv.one
  exact SCL.stripChars (fun t' k _ => ⟨.str _, H, I.tok _, ⟨_, rfl⟩, q⟩) hz

/-- a text's slice -/
theorem isSlice_of {h : Heap} {sl : Addr} {vl vu vs : Value} {lo hi st : Option Int} (hs : h.IsSliceOf sl vl vu vs) (pl : IsPart vl lo) (pu : IsPart vu hi) (ps : IsPart vs st) :
    ∃ l u t, l.map (·.1) = lo ∧ u.map (·.1) = hi ∧ t.map (·.1) = st ∧ h.IsSlice sl l u t := by
  obtain ⟨o, ho, hc, hd⟩ := hs
  cases pl <;> cases pu <;> cases ps
  · exact ⟨none, none, none, rfl, rfl, rfl, o, ho, hc, hd⟩
  · exact ⟨none, none, some (_, _), rfl, rfl, rfl, o, ho, hc, hd⟩
  · exact ⟨none, some (_, _), none, rfl, rfl, rfl, o, ho, hc, hd⟩
  · exact ⟨none, some (_, _), some (_, _), rfl, rfl, rfl, o, ho, hc, hd⟩
  · exact ⟨some (_, _), none, none, rfl, rfl, rfl, o, ho, hc, hd⟩
  · exact ⟨some (_, _), none, some (_, _), rfl, rfl, rfl, o, ho, hc, hd⟩
  · exact ⟨some (_, _), some (_, _), none, rfl, rfl, rfl, o, ho, hc, hd⟩
  · exact ⟨some (_, _), some (_, _), some (_, _), rfl, rfl, rfl, o, ho, hc, hd⟩

/-- the codes picked -/
def sliceS (x : Str) (lo hi st : Option Int) : Str :=
  if ((st.getD 1 == 1 && (Builtin.Str.strSliceIndices lo hi (st.getD 1) x.length).length == x.length) = true) then x else ⟨((Builtin.Str.strSliceIndices lo hi (st.getD 1) x.length).filterMap (x.cps[·]?)).toArray⟩
theorem sliceS_le (x : Str) (lo hi st : Option Int) (h0 : st.getD 1 ≠ 0) : (sliceS x lo hi st).length ≤ x.length := by
  unfold sliceS
  split
  · exact Nat.le_refl _
  · show (List.filterMap _ _).toArray.size ≤ x.length
    rw [List.size_toArray]
    exact Nat.le_trans (List.length_filterMap_le _ _) (sliceIndicesBy_le _ _ _ h0 x.length)

theorem getItem_str_cut {pins : List (Addr × Obj)} {s : Shared} {σ : St} {H : Hp} {x : Str} {t : Tok} {sl : Addr} {vl vu vs : Value} {lo hi st : Option Int} {Q : VK} (I : Inv X pins σ H s) (hs : s.heap.IsSliceOf sl vl vu vs) (pl : IsPart vl lo) (pu : IsPart vu hi) (ps : IsPart vs st)
    (h0 : st.getD 1 ≠ 0) (hz : x.length ≤ sizeLine) (q : Q (.str (sliceS x lo hi st)) H) : wpAny (model X.prog X.w) X.A (getItem (.str x t) (.ref sl)) (EP X pins σ Q) X.xe s := by
  obtain ⟨l, u, t', e1, e2, e3, z⟩ := isSlice_of hs pl pu ps
  have e3' : (t'.map (·.1)).getD 1 = st.getD 1 := by rw [e3]
  have hb : ((t'.map (·.1)).getD 1 == 0) = false := by rw [e3']; simpa using h0
  refine wpAny_getItem_str_slice z hb ?_
  have hp : slicePicked x l u t' = Builtin.Str.strSliceIndices lo hi (st.getD 1) x.length := by unfold slicePicked; rw [e1, e2, e3']
  unfold sliceMade
  rw [hp, e3']
  exact post_val_or_str ⟨Nat.le_trans (sliceS_le x lo hi st h0) hz, fun t'' k => ⟨.str _, H, I.tok _, ⟨_, rfl⟩, q⟩⟩

variable {e : Expr} {te : TE} {pos p2 p3 p4 : Pos}
def tRev (K : PySem.W.Frag) (te : TE) : TE := fun σ H Q => te σ H fun x H1 => (∃ y, x = .str y ∧ y.length ≤ sizeLine ∧ Q (.str (sliceS y none none (some (-1)))) H1) ∨
  ∃ a xs, x = .ref a ∧ SqL K H1 a xs ∧ ∀ p, H1 p = none → Q (.ref p) (upd H1 p (.lst xs.reverse))

theorem pick_take {α : Type} (xs : List α) : ∀ k : Nat, (List.range k).filterMap (xs[·]?) = xs.take k
  | 0 => by simp
  | k + 1 => by
    rw [List.range_succ, List.filterMap_append, pick_take xs k, List.take_succ]
    cases e : xs[k]? <;> simp [e]
theorem rev_idx (n : Nat) : sliceRange ((n : Int) - 1) (-1) (-1) = (List.range n).reverse := by
  unfold sliceRange
  dsimp only
  rw [if_neg (by decide)]
  have hc : (if ((n : Int) - 1) > -1 then ((n : Int) - 1 - -1 - -1 - 1) / (- -1) else 0) = (n : Int) := by
    split
    · rw [show (- -1 : Int) = 1 by decide, Int.ediv_one]; omega
    · omega
  rw [hc, Int.toNat_natCast]
  refine List.ext_getElem (by simp) fun i h1 h2 => ?_
  have hi : i < n := by simpa using h1
  simp only [List.getElem_map, List.getElem_range, List.getElem_reverse, List.length_range]
  omega
theorem pick_rev {α : Type} (xs : List α) : ((sliceRange ((xs.length : Int) - 1) (-1) (-1)).filterMap (xs[·]?)) = xs.reverse := by
  rw [rev_idx, List.filterMap_reverse, pick_take, List.take_length]
theorem rev_pick (its : List Value) : slicePick its.toArray none none (some (-1)) = its.reverse.toArray := by
  unfold slicePick sliceBounds
  have e := pick_rev its
  simp only [Option.getD_some, show ¬ ((-1 : Int) > 0) by decide, if_false, List.size_toArray]
  rw [← e]
  simp
theorem pe_rev {j : Nat} (he : PE X e te) : PE X (.Subscript e (.Slice none none (some (.UnaryOp .USub (.Constant (.int 1) j p4) p3)) p2) pos) (tRev X.K te) := by
  intro pins s σ H Q I h
  refine Subscript_ (thn (he pins s σ H _ I h) fun v s1 ⟨x, H1, I1, r1, q1⟩ => ?_)
  refine wpAny_Slice ?_
  rw [evalPart_none]
  refine wpAny_pure (wpAny_pure ?_)
  rw [evalPart_some]
  refine thn (pe_un un_neg pe_int pins s1 σ H1 (fun y H2 => y = .int (-1) ∧ H2 = H1) I1 ⟨1, rfl, rfl, rfl⟩) fun vs s2 ⟨y, H2, I2, r2, e1, e2⟩ => ?_
  subst e1; subst e2
  obtain ⟨tk, rfl⟩ := r2
  have I3 : Inv X pins σ H2 { s2 with heap := s2.heap.push { cls := .type "slice", data := .fields #[.none, .none, .int (-1) tk] } } := I2.kept (t' := s2.toks) fun b ob q => Heap.get?_push_of_some _ q
  have hsl : (s2.heap.push { cls := .type "slice", data := .fields #[Value.none, .none, .int (-1) tk] }).IsSliceOf s2.heap.objs.size .none .none (.int (-1) tk) := ⟨_, Heap.get?_push_size _ rfl, rfl, rfl⟩
  show wpAny (model X.prog X.w) X.A (subscriptTail e _ v (.ref s2.heap.objs.size)) (EP X pins σ Q) X.xe { s2 with heap := s2.heap.push { cls := .type "slice", data := .fields #[.none, .none, .int (-1) tk] } }
  rcases q1 with ⟨y, rfl, hz, q⟩ | ⟨a, xs, rfl, hx, q⟩
  · obtain ⟨t, rfl⟩ := r1
    exact tail_any (ops := [.str y t, .ref s2.heap.objs.size]) (typeIs_str _ _ _) F.slot_str_getitem.lookup (getItem_str_cut I3 hsl .none .none (.int _ _) (by decide) hz q) (by with_unfolding_all rfl)
  · cases r1
    obtain ⟨its, r, ht, hz⟩ := I3.list hx
    refine tail_any (ops := [.ref a, .ref s2.heap.objs.size]) ht.isList.typeIs slot_list_getitem.lookup (wpAny_getItem_list_slice ht.isList hsl .none .none (.int _ _) (by decide) ?_ (by rw [List.size_toArray, ← r.length]; exact hz)) (by with_unfolding_all rfl)
    rw [rev_pick]
    refine ⟨.ref _, _, I3.lnew (t' := s2.toks) (ys := xs.reverse) r.reverse (by rw [List.length_reverse]; exact hz), rfl, q _ I3.fresh⟩

theorem call_all : CallR X (.builtin "all") (fun xs H Q => X.calm = true ∧ ∃ (a : Addr) (bs : List Bool), xs = [.ref a] ∧ SqL X.K H a (bs.map V.bl) ∧ Q (.bl (bs.all fun b => b)) H) := by
  intro pins s σ H xs us Q I r h
  obtain ⟨hc, a, bs, rfl, hq, q⟩ := h
  obtain ⟨u, rfl, ru⟩ := vals1 r
  cases ru
  obtain ⟨its, rv, p, hz⟩ := I.list hq
  have hlen := rv.length
  rw [List.length_map] at hlen
  refine call_all_walk (wpAny_pyIter_list p.isList ?_)
  have ha : a ≠ s.heap.objs.size := by obtain ⟨o, n, e, _⟩ := p; exact Nat.ne_of_lt (Heap.lt_size e)
  refine ⟨s.heap.objs.size, _, _, _, _, _, fun i => (bs[i]?).getD true, rfl, Walks.list (by rw [Around.in1_handled]; exact I.ok.hd hc) s.heap.objs.size a ha its.toArray, ?_, ?_, fun h' tk k => ?_⟩
  · exact ⟨⟨_, Heap.get?_push_size _ rfl, rfl, rfl⟩, p.isList.push _⟩
  · intro i v s' Q' E' hv hq'
    have hv' : its.toArray[i]? = some v := hv
    have hi : its[i]? = some v := by simpa using hv'
    have hil : i < bs.length := by rw [hlen]; exact (List.getElem?_eq_some_iff.mp hi).1
    obtain ⟨u', hu', ru'⟩ := rv.get (i := i) (x := .bl bs[i]) (by rw [List.getElem?_map, List.getElem?_eq_getElem hil]; rfl)
    rw [hi] at hu'
    cases hu'
    cases ru'
    have hq2 : Q' ((bs[i]?).getD true) s' := hq'
    rw [List.getElem?_eq_getElem hil] at hq2
    exact wpAny_truthy_bool hq2
  · have e : (List.range its.toArray.size).all (fun i => (bs[i]?).getD true) = bs.all fun b => b := by
      rw [List.size_toArray, ← hlen]
      rw [Bool.eq_iff_iff]
      simp only [List.all_eq_true, List.mem_range]
      constructor
      · intro z b hb
        obtain ⟨i, hi, e⟩ := List.mem_iff_getElem.mp hb
        have := z i hi
        rw [List.getElem?_eq_getElem hi] at this
        rw [← e]; exact this
      · intro z i hi
        rw [List.getElem?_eq_getElem hi]
        exact z _ (List.getElem_mem hi)
    rw [e]
    have I2 : Inv X pins σ H { s with heap := s.heap.push { cls := .type "list_iterator", data := .fields #[.ref a, .int 0 0] } } := I.kept (t' := s.toks) fun b o e => Heap.get?_push_of_some _ e
    exact ⟨.bl _, H, I.kept (t' := tk) (h' := h') fun b o e => k b o (by simp; exact Nat.ne_of_lt (Heap.lt_size e)) (Heap.get?_push_of_some _ e), rfl, q⟩

/-- n values, each known by its place -/
def Itv (f : Nat → V) (n : Nat) : It := ⟨fun i _ => i < n, fun i H x H' => H' = H ∧ x = f i, fun i _ => n ≤ i⟩
def signAt (x : Str) (i : Nat) : V := .str ⟨#[x.cps.getD i 0]⟩
theorem turn_str {P : Program} {w : World} {K : PySem.W.Frag} {tg : Expr} (it : Addr) (ty : String) (x : Str) (t : Tok) (hty : ["enumerate", "zip", "dict_itemiterator", "dict_reverseitemiterator", "odict_iterator", "itertools.zip_longest", "itertools.pairwise"].contains ty = false)
    (wi : ∀ (A : Around) (s : Shared) (i c : Nat) (Q : Option Value → Shared → Prop) (E : Value → Shared → Prop), s.heap.IsStrIter it ty x t i → x.cps[i]? = some c → (∀ h', h'.IsStrIter it ty x t (i + 1) → Heap.SameBut it s.heap h' → Q (some (.str ⟨#[c]⟩ s.toks)) { s with heap := h', toks := s.toks + 1 }) → wpAny (model P w) A (pyNext (.ref it)) Q E s)
    (we : ∀ (A : Around) (s : Shared) (i : Nat) (Q : Option Value → Shared → Prop) (E : Value → Shared → Prop), A.handled = none → s.heap.IsStrIter it ty x t i → x.cps[i]? = none → (∀ h', Heap.ExtBut it s.heap h' → Q none { s with heap := h' }) → wpAny (model P w) A (pyNext (.ref it)) Q E s)
    (ws : ∀ (A : Around) (s : Shared) (i : Nat) (Q : Value → Shared → Prop) (E : Value → Shared → Prop), s.heap.IsStrIter it ty x t i → Q (.ref it) s → wpAny (model P w) A (pyIter (.ref it)) Q E s) :
    Turn P w K tg (Itv (signAt x) x.cps.size) [it] it (fun i h => h.IsStrIter it ty x t i) where
  mem := by simp
  obj := fun i h st b hb => by
    have e : b = it := by simpa using hb
    subst e
    obtain ⟨o, e, c, d⟩ := st
    exact ⟨o, e, fun v z => by rw [d] at z; cases z⟩
  keep := fun i h h' st k => by
    obtain ⟨o, e, r⟩ := st
    exact ⟨o, k it (by simp) o e, r⟩
  item := by
    intro X hP hw hK hc i pins s σ H E I hf st hg
    subst hP hw hK
    obtain ⟨f0, f1, f2, f3, f4, f5⟩ := hf it (by simp)
    have hi : i < x.cps.size := hg
    refine wi X.A s i x.cps[i] _ _ st (Array.getElem?_eq_getElem hi) fun h' st' sb => ?_
    have I1 : Inv X pins σ H { s with heap := h', toks := s.toks + 1 } := I.turned (fun b o hb e => (sb.2 b hb).trans e) f0 f1 f3 f4 f5
    obtain ⟨o, e, ec, ed⟩ := id st'
    refine ⟨_, rfl, go_of (s := { s with heap := h', toks := s.toks + 1 }) e ec ed hty ⟨signAt x i, H, I1, ⟨s.toks, ?_⟩, ⟨rfl, rfl⟩, st', fun b hb => (hf b hb).1⟩⟩
    have : x.cps.getD i 0 = x.cps[i] := by rw [Array.getD_eq_getD_getElem?, Array.getElem?_eq_getElem hi]; rfl
    rw [this]
  done := by
    intro X hP hw hK hc i pins s σ H E I hf st hg
    subst hP hw hK
    obtain ⟨f0, f1, f2, f3, f4, f5⟩ := hf it (by simp)
    have hi : x.cps.size ≤ i := hg
    exact we X.A s i _ _ (I.ok.hd hc) st (Array.getElem?_eq_none hi) fun h' eb => ⟨rfl, I.turned (t' := s.toks) (fun b o hb e => eb b o hb e) f0 f1 f3 f4 f5⟩
  self := fun A i s Q E st h => ws A s i Q E st h
def iStr (tl : TE) : TI := fun σ H R => tl σ H fun x H1 => ∃ y, x = .str y ∧ R (Itv (signAt y) y.cps.size) H1
theorem pi_str {tg l : Expr} {tl : TE} (hl : PE X l tl) : PI X tg l (iStr tl) := by
  intro pins s σ H R I h
  refine thn (hl pins s σ H _ I h) fun v s1 ⟨x, H1, I1, r1, q1⟩ => ?_
  obtain ⟨y, e, q⟩ := q1
  subst e
  obtain ⟨t, rfl⟩ := r1
  have fin : ∀ (o : Obj), ∀ b ∈ [s1.heap.objs.size], FpOk X pins H1 b := fun o b hb => by
    have e : b = s1.heap.objs.size := by simpa using hb
    subst e
    exact I1.fpOk (Nat.le_refl _) (I1.hok.fresh (Nat.le_refl _))
  cases ha : y.cps.all (· < 128)
  · refine wpAny_pyIter_wide ha ?_
    exact ⟨s1.heap.objs.size, [s1.heap.objs.size], _, _, H1, rfl, I1.kept (t' := s1.toks) fun b o e => Heap.get?_push_of_some _ e,
      turn_str _ "str_iterator" y t (by decide) (fun A s i c Q E st hx k => wpAny_pyNext_wide_item st hx k) (fun A s i Q E hh st hx k => wpAny_pyNext_wide_end hh st hx k) (fun A s i Q E st k => wpAny_pyIter_striter_wide st k),
      ⟨_, Heap.get?_push_size _ rfl, rfl, rfl⟩, fin default, q⟩
  · refine wpAny_pyIter_ascii ha ?_
    exact ⟨s1.heap.objs.size, [s1.heap.objs.size], _, _, H1, rfl, I1.kept (t' := s1.toks) fun b o e => Heap.get?_push_of_some _ e,
      turn_str _ "str_ascii_iterator" y t (by decide) (fun A s i c Q E st hx k => wpAny_pyNext_ascii_item st hx k) (fun A s i Q E hh st hx k => wpAny_pyNext_ascii_end hh st hx k) (fun A s i Q E st k => wpAny_pyIter_striter_ascii st k),
      ⟨_, Heap.get?_push_size _ rfl, rfl, rfl⟩, fin default, q⟩

/-- pairs of what two lists hold, as they stand -/
def Itz (K : PySem.W.Frag) (a b : Addr) : It :=
  ⟨fun i H => ∃ xs ys x y, SqL K H a xs ∧ SqL K H b ys ∧ xs[i]? = some x ∧ ys[i]? = some y,
   fun i H v H' => ∃ t, v = .ref t ∧ H t = none ∧ ∃ x y, H' = upd H t (.tup [x, y]) ∧ (∀ xs, SqL K H a xs → xs[i]? = some x) ∧ ∀ ys, SqL K H b ys → ys[i]? = some y,
   fun i H => ∃ xs ys, SqL K H a xs ∧ SqL K H b ys ∧ (xs.length ≤ i ∨ ys.length ≤ i)⟩
theorem zipApart {h : Heap} {a b z TI TO i1 i2 : Addr} {u v : Value} {k1 k2 : Nat} {xs ys : Array Value} (nd : [z, TI, TO, i1, i2].Nodup) (hz : IsZip h z TI TO .none) (hT : IsPair h TI (.ref i1) (.ref i2)) (hO : IsPair h TO u v)
    (h1 : h.IsListIter i1 a k1) (h2 : h.IsListIter i2 b k2) (p : PlainL h a xs) (p2 : PlainL h b ys) : ZipApart z TI TO i1 i2 a b := by
  obtain ⟨o1, e1, c1, d1⟩ := h1
  obtain ⟨o2, e2, c2, d2⟩ := h2
  obtain ⟨o3, n3, e3, c3, _, d3⟩ := p
  obtain ⟨o4, n4, e4, c4, _, d4⟩ := p2
  simp only [List.nodup_cons, List.mem_cons, List.mem_nil_iff, or_false, not_or, List.nodup_nil, and_true, not_false_eq_true] at nd
  obtain ⟨⟨n1, n2, n3', n4'⟩, ⟨n5, n6, n7⟩, ⟨n8, n9⟩, n10⟩ := nd
  have A3 : ∀ {x : Addr} {o : Obj}, h.get? x = some o → o.cls ≠ .type "list" → a ≠ x := fun {x o} e hc q => by
    subst q; rw [e] at e3; cases e3; exact hc c3
  have A4 : ∀ {x : Addr} {o : Obj}, h.get? x = some o → o.cls ≠ .type "list" → b ≠ x := fun {x o} e hc q => by
    subst q; rw [e] at e4; cases e4; exact hc c4
  exact ⟨Ne.symm n1, Ne.symm n2, Ne.symm n3', Ne.symm n4', n5, n6, n7, n8, n9, n10, A3 hz (by show Value.type "zip" ≠ .type "list"; decide), A3 hO (by show Value.type "tuple" ≠ .type "list"; decide), A3 e1 (by rw [c1]; decide), A3 e2 (by rw [c2]; decide), A4 hz (by show Value.type "zip" ≠ .type "list"; decide), A4 hO (by show Value.type "tuple" ≠ .type "list"; decide), A4 e1 (by rw [c1]; decide), A4 e2 (by rw [c2]; decide)⟩
theorem turn_zip {P : Program} {w : World} {K : PySem.W.Frag} {elts : List Expr} {k : Nat} {pos : Pos} (a b z TI TO i1 i2 : Addr) (nd : [z, TI, TO, i1, i2].Nodup) :
    Turn P w K (.Tuple elts k pos) (Itz K a b) [z, TI, TO, i1, i2] z (fun i h => IsZip h z TI TO .none ∧ IsPair h TI (.ref i1) (.ref i2) ∧ (∃ u v, IsPair h TO u v) ∧ h.IsListIter i1 a i ∧ h.IsListIter i2 b i) where
  mem := by simp
  obj := fun i h st c hc => by
    obtain ⟨hz, hT, ⟨u, v, hO⟩, ⟨o1, e1, c1, d1⟩, ⟨o2, e2, c2, d2⟩⟩ := st
    simp only [List.mem_cons, List.mem_nil_iff, or_false] at hc
    rcases hc with rfl | rfl | rfl | rfl | rfl
    · exact ⟨_, hz, fun v z => nomatch z⟩
    · exact ⟨_, hT, fun v z => nomatch z⟩
    · exact ⟨_, hO, fun v z => nomatch z⟩
    · exact ⟨_, e1, fun v z => by rw [d1] at z; cases z⟩
    · exact ⟨_, e2, fun v z => by rw [d2] at z; cases z⟩
  keep := fun i h h' st kk => by
    obtain ⟨hz, hT, ⟨u, v, hO⟩, h1, h2⟩ := st
    exact ⟨kk z (by simp) _ hz, kk TI (by simp) _ hT, ⟨u, v, kk TO (by simp) _ hO⟩, h1.at fun o e => kk i1 (by simp) o e, h2.at fun o e => kk i2 (by simp) o e⟩
  item := by
    intro X hP hw hK hc i pins s σ H E I hf st hg
    subst hP hw hK
    obtain ⟨xs, ys, x, y, hqa, hqb, hx, hy⟩ := hg
    obtain ⟨hz, hT, ⟨u0, v0, hO⟩, h1, h2⟩ := id st
    obtain ⟨its, rv, p, _⟩ := I.list hqa
    obtain ⟨its2, rv2, p2, _⟩ := I.list hqb
    obtain ⟨u, hu, ru⟩ := rv.get hx
    obtain ⟨v, hv, rv'⟩ := rv2.get hy
    have D : ZipApart z TI TO i1 i2 a b := zipApart nd hz hT hO h1 h2 p p2
    refine wpAny_pyNext_zip_item D hz hT hO h1 h2 p.isList p2.isList (x := u) (y := v) (by simpa using hu) (by simpa using hv) fun h' a1 a2 a3 a4 a5 a6 kk => ?_
    refine ⟨_, rfl, wpAny_letOwnedTupleGo_zip a1 fun h'' b1 sb => ?_⟩
    have nT : ∀ c ∈ [z, TI, TO, i1, i2], c ≠ s.heap.objs.size := fun c hc => by
      obtain ⟨o, e, _⟩ := (show ∀ c ∈ [z, TI, TO, i1, i2], ∃ o, s.heap.get? c = some o ∧ True from fun c hc => by
        simp only [List.mem_cons, List.mem_nil_iff, or_false] at hc
        obtain ⟨o1, e1, _⟩ := h1
        obtain ⟨o2, e2, _⟩ := h2
        rcases hc with rfl | rfl | rfl | rfl | rfl
        · exact ⟨_, hz, trivial⟩
        · exact ⟨_, hT, trivial⟩
        · exact ⟨_, hO, trivial⟩
        · exact ⟨_, e1, trivial⟩
        · exact ⟨_, e2, trivial⟩) c hc
      exact Nat.ne_of_lt (Heap.lt_size e)
    have fr : H s.heap.objs.size = none := I.fresh
    have kp : ∀ c o, c ∉ [z, TO, i1, i2] → s.heap.get? c = some o → h''.get? c = some o := fun c o hc e => by
      simp only [List.mem_cons, List.mem_nil_iff, or_false, not_or] at hc
      exact (sb.2 c hc.1).trans (kk c o hc.1 hc.2.1 hc.2.2.1 hc.2.2.2 e)
    have fpn : ∀ c ∈ [z, TO, i1, i2], H c = none := fun c hc => by
      simp only [List.mem_cons, List.mem_nil_iff, or_false] at hc
      rcases hc with rfl | rfl | rfl | rfl <;> exact (hf _ (by simp)).1
    have I1 : Inv X pins σ (upd H s.heap.objs.size (.tup [x, y])) { s with heap := h'' } := by
      refine I.step (g' := s.gens) (d' := s.drawn) (t' := s.toks) (ch := [z, TO, i1, i2]) (fun c hc => ?_) (fun c o _ _ hc e _ => kp c o hc e) (fun c o _ _ hc e _ => ⟨o.slots, kp c o hc e⟩) (fun c o hc e n => ?_) (fun c o hc e => ⟨o, kp c o hc e⟩)
        (fun c us e => ?_) (fun c o us e => ?_) (fun c us e => ⟨#[], ?_⟩) (fun m hm => ?_) (fun c us e => ?_) I.bare
      · simp only [List.mem_cons, List.mem_nil_iff, or_false] at hc
        have : c ∈ [z, TI, TO, i1, i2] := by
          simp only [List.mem_cons, List.mem_nil_iff, or_false]
          rcases hc with q | q | q | q
          · exact .inl q
          · exact .inr (.inr (.inl q))
          · exact .inr (.inr (.inr (.inl q)))
          · exact .inr (.inr (.inr (.inr q)))
        obtain ⟨f0, f1, f2, f3, f4, f5⟩ := hf c this
        exact ⟨f3, f1, f4, f5⟩
      · rw [upd_ne (Nat.ne_of_lt (Heap.lt_size e))]; exact n
      · rw [upd_ne (ne_of_none e fr)]; exact e
      · rw [upd_ne (ne_of_none e fr)]; exact e
      · rw [upd_ne (ne_of_none e fr), e]; simp
      · obtain ⟨o, es, ep, ho, r⟩ := hm
        refine ⟨o, es, ep, kp _ o (fun q => ?_) ho, r⟩
        simp only [List.mem_cons, List.mem_nil_iff, or_false] at q
        rcases q with q | q | q | q
        · exact (hf z (by simp)).2.1 q.symm
        · exact (hf TO (by simp)).2.1 q.symm
        · exact (hf i1 (by simp)).2.1 q.symm
        · exact (hf i2 (by simp)).2.1 q.symm
      · by_cases hcT : c = s.heap.objs.size
        · subst hcT
          rw [upd_same] at e
          cases e
          have e5 : h''.get? s.heap.objs.size = some { cls := .type "tuple", data := .seq #[u, v] } := (sb.2 _ (Ne.symm (nT z (by simp)))).trans a5
          exact ⟨(by show 2 ≤ sizeLine; decide), [u, v], .cons ru (.cons rv' .nil), _, e5, rfl, _, rfl⟩
        · rw [upd_ne hcT] at e
          refine (I.hok c us e).stay (fun d w' hd q => kp d w' (fun q2 => ?_) q) (fun d q => ?_) fun d ws q => ?_
          · have z1 := fpn d q2
            rcases hd with y1 | y1
            · rw [y1, e] at z1; cases z1
            · rw [y1] at z1; cases z1
          · rw [upd_ne (ne_of_none q fr)]; exact q
          · rw [upd_ne (ne_of_none q fr)]; exact q
    refine ⟨.ref s.heap.objs.size, _, I1, rfl, ⟨_, rfl, fr, x, y, rfl, fun zs hz' => by rw [I.list_inj hz' hqa]; exact hx, fun zs hz' => by rw [I.list_inj hz' hqb]; exact hy⟩, ?_, fun c hc => ?_⟩
    · refine ⟨b1, ?_, ⟨u, v, ?_⟩, ?_, ?_⟩
      · exact kp TI _ (by simp only [List.nodup_cons, List.mem_cons, List.mem_nil_iff, or_false, not_or] at nd ⊢; exact ⟨fun q => nd.1.1 q.symm, nd.2.1⟩) hT
      · exact (sb.2 _ D.TOz).trans a2
      · exact a3.extBut sb.extBut D.i1z
      · exact a4.extBut sb.extBut D.i2z
    · rw [upd_ne (nT c hc)]; exact (hf c hc).1
  done := by
    intro X hP hw hK hc i pins s σ H E I hf st hg
    subst hP hw hK
    obtain ⟨xs, ys, hqa, hqb, hend⟩ := hg
    obtain ⟨hz, hT, ⟨u0, v0, hO⟩, h1, h2⟩ := id st
    obtain ⟨its, rv, p, _⟩ := I.list hqa
    obtain ⟨its2, rv2, p2, _⟩ := I.list hqb
    have D : ZipApart z TI TO i1 i2 a b := zipApart nd hz hT hO h1 h2 p p2
    have l1 := rv.length
    have l2 := rv2.length
    refine wpAny_pyNext_zip_end (I.ok.hd hc) D hz hT hO h1 h2 p.isList p2.isList (hend.imp (fun q => by simp; omega) fun q => by simp; omega) fun h' kk => ⟨rfl, ?_⟩
    have kp : ∀ c o, c ∉ [z, TO, i1, i2] → s.heap.get? c = some o → h'.get? c = some o := fun c o hc e => by
      simp only [List.mem_cons, List.mem_nil_iff, or_false, not_or] at hc
      exact kk c o hc.1 hc.2.1 hc.2.2.1 hc.2.2.2 e
    have fpn : ∀ c ∈ [z, TO, i1, i2], H c = none := fun c hc => by
      simp only [List.mem_cons, List.mem_nil_iff, or_false] at hc
      rcases hc with rfl | rfl | rfl | rfl <;> exact (hf _ (by simp)).1
    refine I.step (g' := s.gens) (d' := s.drawn) (t' := s.toks) (ch := [z, TO, i1, i2]) (fun c hc => ?_) (fun c o _ _ hc e _ => kp c o hc e) (fun c o _ _ hc e _ => ⟨o.slots, kp c o hc e⟩) (fun c o hc e n => n) (fun c o hc e => ⟨o, kp c o hc e⟩)
      (fun c us e => e) (fun c o us e => e) (fun c us e => ⟨#[], by rw [e]; simp⟩) (fun m hm => ?_) (fun c us e => ?_) I.bare
    · simp only [List.mem_cons, List.mem_nil_iff, or_false] at hc
      have : c ∈ [z, TI, TO, i1, i2] := by
        simp only [List.mem_cons, List.mem_nil_iff, or_false]
        rcases hc with q | q | q | q
        · exact .inl q
        · exact .inr (.inr (.inl q))
        · exact .inr (.inr (.inr (.inl q)))
        · exact .inr (.inr (.inr (.inr q)))
      obtain ⟨f0, f1, f2, f3, f4, f5⟩ := hf c this
      exact ⟨f3, f1, f4, f5⟩
    · obtain ⟨o, es, ep, ho, r⟩ := hm
      refine ⟨o, es, ep, kp _ o (fun q => ?_) ho, r⟩
      simp only [List.mem_cons, List.mem_nil_iff, or_false] at q
      rcases q with q | q | q | q
      · exact (hf z (by simp)).2.1 q.symm
      · exact (hf TO (by simp)).2.1 q.symm
      · exact (hf i1 (by simp)).2.1 q.symm
      · exact (hf i2 (by simp)).2.1 q.symm
    · refine (I.hok c us e).stay (fun d w' hd q => kp d w' (fun q2 => ?_) q) (fun d q => q) fun d ws q => q
      have z1 := fpn d q2
      rcases hd with y1 | y1
      · rw [y1, e] at z1; cases z1
      · rw [y1] at z1; cases z1
  self := fun _ _ _ _ _ st h => wpAny_pyIter_zip st.1 h
def iZip (K : PySem.W.Frag) (ta : TA) : TI := fun σ H R => ta σ H fun vs H1 => ∃ a b, vs = [.ref a, .ref b] ∧ (∃ xs, SqL K H1 a xs) ∧ (∃ ys, SqL K H1 b ys) ∧ R (Itz K a b) H1
theorem pi_zip {elts : List Expr} {k : Nat} {tpos : Pos} {a b : Expr} {ta : TA} {p pos : Pos} (hg : Gl X "zip") (hm : X.mg "zip" = none) (ha : PA X [a, b] ta) (hs : starEach [a, b] X.env = [(false, eval a X.env), (false, eval b X.env)] := by rfl) (hs2 : starEach [b] X.env = [(false, eval b X.env)] := by rfl) :
    PI X (.Tuple elts k tpos) (.Call (.Name "zip" p) [a, b] [] pos) (iZip X.K ta) := by
  intro pins s σ H R I h
  refine Call_ (ld_blt I hg hm boot_zip (PyProof.Rows.callWith_type1 (thn (ha pos pins s σ H _ I h) fun us s1 ⟨vs, H1, I1, r1, q1⟩ => ?_) (by rw [hs, hs2]) (by rw [hs2]; rfl)))
  obtain ⟨x, y, e, ⟨xs, hx⟩, ⟨ys, hy⟩, q⟩ := q1
  subst e
  obtain ⟨u, v, rfl, ru, rv⟩ := vals2 r1
  cases ru
  cases rv
  obtain ⟨its, rvx, px, _⟩ := I1.list hx
  obtain ⟨its2, rvy, py, _⟩ := I1.list hy
  refine call_zip_2 px.isList py.isList fun h' a1 a2 a3 a4 a5 a6 kk => wpAny_pyIter_zip a1 ?_
  refine ⟨s1.heap.objs.size + 4, [s1.heap.objs.size + 4, s1.heap.objs.size + 2, s1.heap.objs.size + 3, s1.heap.objs.size, s1.heap.objs.size + 1], _, _, H1, rfl, I1.kept (t' := s1.toks) kk, turn_zip x y _ _ _ _ _ ?_, ⟨a1, a2, ⟨_, _, a3⟩, a4, a5⟩, fun b hb => ?_, q⟩
  · generalize s1.heap.objs.size = n
    simp only [List.nodup_cons, List.mem_cons, List.mem_nil_iff, or_false, not_or, List.nodup_nil, and_true, not_false_eq_true]
    refine ⟨⟨?_, ?_, ?_, ?_⟩, ⟨?_, ?_, ?_⟩, ⟨?_, ?_⟩, ?_⟩ <;> (intro h; have h' : (_ : Nat) = _ := h; omega)
  · simp only [List.mem_cons, List.mem_nil_iff, or_false] at hb
    have hl : s1.heap.objs.size ≤ b := by
      rcases hb with h | h | h | h | h <;> rw [h] <;> first | exact Nat.le_add_right _ _ | exact Nat.le_refl _
    exact I1.fpOk hl (I1.hok.fresh hl)

end
end L2


namespace L2
open PySem PySem.Spec PyProof.Rows

/-- an exception at a of class cls flies at the frames outer: s, H the state ahead of the call, s', H' the state behind; B: what it leaves as it is -/
structure Fly (P : Program) (w : World) (outer : List Env) (H : Hp) (s : Shared) (a : Addr) (cls a0 : Value) (B : Heap) (H' : Hp) (s' : Shared) : Prop where
  os : s'.os = s.os
  bare : AllBare s'.gens
  un : Un (frs outer) [] H H' s.heap s'.heap
  hok : HOk P w H' s'.heap
  new : s.heap.get? a = none
  out : H' a = none
  fly : Heap.FlyingW B outer a cls a0 s'.heap
  inB : ∀ b o, s.heap.get? b = some o → b ∉ frs outer → ∃ o', B.get? b = some o'
  trB : ∀ b u, H' b = some u → ∃ o', B.get? b = some o'

theorem ObjOk.obj {P : Program} {w : World} {H : Hp} {h : Heap} {a : Addr} {o : HO} (x : ObjOk P w H h a o) : ∃ ob, h.get? a = some ob := by
  cases o with
  | lst xs => obtain ⟨_, _, _, _, e⟩ := x; exact ⟨_, e⟩
  | tup xs => obtain ⟨_, _, _, ob, e, _⟩ := x; exact ⟨_, e⟩
  | dK kvs => obtain ⟨_, _, _, _, o, _, _, e, _⟩ := x; exact ⟨_, e⟩
  | dT kvs => obtain ⟨_, _, _, _, o, _, _, e, _⟩ := x; exact ⟨_, e⟩
  | set S n => obtain ⟨o, _, _, _, e, _⟩ := x; exact ⟨_, e⟩
  | ins C dx fs => obtain ⟨_, _, _, e, _⟩ := x; exact ⟨_, e⟩
  | own y => exact x
  | xd fs => obtain ⟨_, ⟨_, _, _, e, _⟩, _⟩ := x; exact ⟨_, e⟩
  | rng lo hi => obtain ⟨_, _, _, e⟩ := x; exact ⟨_, e⟩
  | frz ob u => obtain ⟨e, _⟩ := x; exact ⟨_, e⟩
  | tbl ps => exact ⟨_, (show h.get? a = some _ from x)⟩
  | met f y => exact ⟨_, (show h.get? a = some _ from x)⟩
  | ext φ => obtain ⟨_, e, _⟩ := x; exact e

/-- how an exception lies behind a call -/
def CX1 (P : Program) (w : World) : CXT := fun outer H s E e s' => ∃ (a : Addr) (cls a0 : Value) (B : Heap) (H' : Hp), e = .ref a ∧ Fly P w outer H s a cls a0 B H' s' ∧ E cls none H'

section
variable {P : Program} {w : World} {outer : List Env} {H H' : Hp} {s s' : Shared} {a : Addr} {cls a0 : Value} {B h5 : Heap}

theorem Fly.frm (F : Fly P w outer H s a cls a0 B H' s') : ∀ b ∈ frs outer, B.get? b = none ∧ ∃ o, s'.heap.get? b = some o ∧ ∀ vs, o.data ≠ .fields vs := fun b hb => F.fly.2.2.1.mem hb
theorem Fly.un' (F : Fly P w outer H s a cls a0 B H' s') (st : B.StaysIn h5) (us : s'.heap.UpToSlots h5) : Un (frs outer) [] H H' s.heap h5 where
  keep := fun b o e n hb hx => by
    have e1 := F.un.keep b o e n hb hx
    obtain ⟨o', e2⟩ := F.inB b o e hb
    have e3 := F.fly.1 b o' e2
    rw [e1] at e3
    cases e3
    exact st b o e2
  slot := fun b o e n hb hx => by
    obtain ⟨sl, e1⟩ := F.un.slot b o e n hb hx
    obtain ⟨_, o2, e2, d2⟩ := F.frm b hb
    rw [e1] at e2
    cases e2
    obtain ⟨sl', e3⟩ := us b _ e1 d2
    exact ⟨sl', e3⟩
  free := F.un.free
  there := fun b o e hx => by
    by_cases hb : b ∈ frs outer
    · obtain ⟨_, o2, e2, d2⟩ := F.frm b hb
      obtain ⟨sl', e3⟩ := us b _ e2 d2
      exact ⟨_, e3⟩
    · obtain ⟨o', e2⟩ := F.inB b o e hb
      exact ⟨o', st b o' e2⟩
  tups := F.un.tups
  frzs := F.un.frzs
  tbls := F.un.tbls
theorem Fly.hok' (F : Fly P w outer H s a cls a0 B H' s') (st : B.StaysIn h5) : HOk P w H' h5 := fun b u e => by
  refine (F.hok b u e).stay (fun c v hc q => ?_) (fun _ q => q) fun _ _ q => q
  have : ∃ u', H' c = some u' := by
    rcases hc with z | z
    · exact ⟨u, z ▸ e⟩
    · exact ⟨_, z⟩
  obtain ⟨u', z⟩ := this
  obtain ⟨o', e2⟩ := F.trB c u' z
  have e3 := F.fly.1 c o' e2
  rw [q] at e3
  cases e3
  exact st c v e2
end

section
variable {X : Cx} {pins : List (Addr × Obj)} {σ : St} {H H' : Hp} {s s' : Shared} {a : Addr} {cls a0 : Value} {B : Heap} {M : Model} {E : Value → Shared → Prop} {Q : Unit → Shared → Prop}

/-- it passes through this frame -/
theorem fly_leave (I : Inv X pins σ H s) (hx : X.ex = []) (hst : X.stack = X.env :: X.outer) (hfr : X.env.frame = some X.env.locals) (F : Fly X.prog X.w X.stack H s a cls a0 B H' s')
    (h : ∀ s'', Fly X.prog X.w X.outer X.H₀ X.s₀ a cls a0 B H' s'' → Q () s'') : wpAny M X.A (leaving X.env (.ref a)) Q E s' := by
  have fl : Heap.FlyingW B (X.env :: X.outer) a cls a0 s'.heap := hst ▸ F.fly
  refine wpAny_leaves_onW (by rw [I.ok.frames, hst]) hfr fl fun h5 fl5 us => h _ ?_
  have u := F.un' fl5.1 us
  have sub : ∀ b, b ∈ frs X.stack ↔ b = X.env.locals ∨ b ∈ X.fs := fun b => by
    rw [hst]
    unfold frs
    rw [List.filterMap_cons, hfr]
    exact List.mem_cons
  have ne : ∀ b o, X.s₀.heap.get? b = some o → b ≠ X.env.locals := fun b o e => Nat.ne_of_lt (Nat.lt_of_lt_of_le (Heap.lt_size e) I.ok.above)
  have nx : ∀ b, b ∉ X.ex := fun b => by rw [hx]; simp
  have nin : ∀ b o, X.s₀.heap.get? b = some o → b ∉ X.fs → b ∉ frs X.stack := fun b o e hb z => by
    rcases (sub b).mp z with q | q
    · exact ne b o e q
    · exact hb q
  refine ⟨F.os.trans I.os, F.bare, ⟨fun b o e n hb _ => ?_, fun b o e n hb _ => ?_, fun b o e n _ => ?_, fun b o e _ => ?_, fun b xs e => u.tups b xs (I.base.tups b xs e), fun b o v e => u.frzs b o v (I.base.frzs b o v e), fun b ps e => ?_⟩, F.hok' fl5.1, ?_, F.out, fl5, fun b o e hb => ?_, F.trB⟩
  · exact u.keep b o (I.base.keep b o e n hb (nx b)) (I.base.free b o e n (nx b)) (nin b o e hb) (by simp)
  · obtain ⟨sl, e1⟩ := I.base.slot b o e n hb (nx b)
    obtain ⟨sl', e2⟩ := u.slot b _ e1 (I.base.free b o e n (nx b)) ((sub b).mpr (.inr hb)) (by simp)
    exact ⟨sl', e2⟩
  · obtain ⟨o', e1⟩ := I.base.there b o e (nx b)
    exact u.free b o' e1 (I.base.free b o e n (nx b)) (by simp)
  · obtain ⟨o', e1⟩ := I.base.there b o e (nx b)
    exact u.there b o' e1 (by simp)
  · obtain ⟨m1, e1⟩ := I.base.tbls b ps e
    obtain ⟨m2, e2⟩ := u.tbls b _ e1
    exact ⟨m1 ++ m2, by rw [e2, Array.append_assoc]⟩
  · cases q : X.s₀.heap.get? a with
    | none => rfl
    | some o =>
      obtain ⟨o', e1⟩ := I.base.there a o q (nx a)
      rw [F.new] at e1; cases e1
  · obtain ⟨o', e1⟩ := I.base.there b o e (nx b)
    exact F.inB b o' e1 (nin b o e hb)

/-- it has just been made here -/
theorem fly_made {h2 : Heap} {args : List Value} (I : Inv X pins σ H s) (hx : X.ex = []) (hst : X.stack = X.env :: X.outer) (hfr : X.env.frame = some X.env.locals) (hm : Heap.MadeExcOf s.heap h2 a cls args)
    (h : ∀ B a0 s'', Fly X.prog X.w X.outer X.H₀ X.s₀ a cls a0 B H s'' → Q () s'') : wpAny M X.A (leaving X.env (.ref a)) Q E { s with heap := h2 } := by
  have fun0 : s.heap.FunFrames X.base (X.env :: X.outer) := hst ▸ I.stack
  have hin : ∀ env ∈ (X.env :: X.outer), ∀ b, env.frame = some b → b ∈ frs X.stack := fun env he b hb => by rw [hst]; exact List.mem_filterMap.mpr ⟨env, he, hb⟩
  refine wpAny_leaves_madeW (base := PySem.W.hideAll s.heap (frs X.stack)) (h := s.heap) (by rw [I.ok.frames, hst]) hfr (fun b o q => PySem.W.of_hideAll _ q) (PySem.W.funFrames_hide fun0 hin) hm fun h5 t fl5 _ _ us => h (PySem.W.hideAll s.heap (frs X.stack)) (.ref t) _ ?_
  have sub : ∀ b, b ∈ frs X.stack ↔ b = X.env.locals ∨ b ∈ X.fs := fun b => by
    rw [hst]
    unfold frs
    rw [List.filterMap_cons, hfr]
    exact List.mem_cons
  have ne : ∀ b o, X.s₀.heap.get? b = some o → b ≠ X.env.locals := fun b o e => Nat.ne_of_lt (Nat.lt_of_lt_of_le (Heap.lt_size e) I.ok.above)
  have nx : ∀ b, b ∉ X.ex := fun b => by rw [hx]; simp
  have nin : ∀ b o, X.s₀.heap.get? b = some o → b ∉ X.fs → b ∉ frs X.stack := fun b o e hb z => by
    rcases (sub b).mp z with q | q
    · exact ne b o e q
    · exact hb q
  have inBs : ∀ b o, s.heap.get? b = some o → b ∉ frs X.stack → (PySem.W.hideAll s.heap (frs X.stack)).get? b = some o := fun b o e hb => PySem.W.hideAll_get _ e hb
  have tr : ∀ b u, H b = some u → ∃ o, s.heap.get? b = some o ∧ b ∉ frs X.stack := fun b u e => by
    obtain ⟨ob, q⟩ := (I.hok b u e).obj
    refine ⟨ob, q, fun z => ?_⟩
    rw [I.stkFree b z] at e; cases e
  have kp : ∀ b o, s.heap.get? b = some o → b ∉ frs X.stack → h5.get? b = some o := fun b o e hb => fl5.1 b o (inBs b o e hb)
  have sl5 : ∀ b o, s.heap.get? b = some o → b ∈ frs X.stack → ∃ sl, h5.get? b = some { o with slots := sl } := fun b o e hb => by
    obtain ⟨_, o2, e2, d2⟩ := I.stack.mem hb
    rw [e] at e2; cases e2
    exact us b o (hm.keeps b o e) d2
  refine ⟨I.os, I.bare, ⟨fun b o e n hb _ => ?_, fun b o e n hb _ => ?_, fun b o e n _ => I.base.free b o e n (nx b), fun b o e _ => ?_, I.base.tups, I.base.frzs, I.base.tbls⟩, fun b u e => ?_, ?_, ?_, fl5, fun b o e hb => ?_, fun b u e => ?_⟩
  · exact kp b o (I.base.keep b o e n hb (nx b)) (nin b o e hb)
  · obtain ⟨sl, e1⟩ := I.base.slot b o e n hb (nx b)
    obtain ⟨sl', e2⟩ := sl5 b _ e1 ((sub b).mpr (.inr hb))
    exact ⟨sl', e2⟩
  · obtain ⟨o', e1⟩ := I.base.there b o e (nx b)
    by_cases hb : b ∈ frs X.stack
    · obtain ⟨sl', e2⟩ := sl5 b _ e1 hb
      exact ⟨_, e2⟩
    · exact ⟨o', kp b o' e1 hb⟩
  · refine (I.hok b u e).stay (fun c v hc q => ?_) (fun _ q => q) fun _ _ q => q
    refine kp c v q fun z => ?_
    have z' := I.stkFree c z
    rcases hc with y | y
    · rw [y, e] at z'; cases z'
    · rw [y] at z'; cases z'
  · cases q : X.s₀.heap.get? a with
    | none => rfl
    | some o =>
      obtain ⟨o', e1⟩ := I.base.there a o q (nx a)
      rw [hm.new] at e1; cases e1
  · cases q : H a with
    | none => rfl
    | some u =>
      obtain ⟨o, e, _⟩ := tr a u q
      rw [hm.new] at e; cases e
  · obtain ⟨o', e1⟩ := I.base.there b o e (nx b)
    exact ⟨o', inBs b o' e1 (nin b o e hb)⟩
  · obtain ⟨o, e1, e2⟩ := tr b u e
    exact ⟨o, inBs b o e1 e2⟩

/-- the state again where it is caught (or looked at) -/
theorem fly_inv {h5 : Heap} (I : Inv X pins σ H s) (F : Fly X.prog X.w X.stack H s a cls a0 B H' s') (st : B.StaysIn h5) (us : s'.heap.UpToSlots h5) : Inv X pins σ H' { s' with heap := h5 } :=
  I.call' (s' := { s' with heap := h5 }) (ch := []) F.os (F.un' st us) (F.hok' st) F.bare fun b hb => absurd hb (by simp)
end

/-- what the top has made of an own class of errors below ValueError -/
structure ExcCl (K : PySem.W.Frag) (mg : Str → Option Value) (x : Str) (C : Addr) : Prop where
  mg : mg x = some (.ref C)
  ok : PySem.W.excIn K C [.type "ValueError", .type "Exception", .type "BaseException", .type "object"] "ValueError.__new__" = true

theorem exc_obj {K : PySem.W.Frag} {h : Heap} {C : Addr} {bmB : List Value} {newId : String} (X : K.In h) (q : PySem.W.excIn K C bmB newId = true) :
    ∃ bm N nm qn bs hdct sn sub ab col dd k0 k1 k2 k3 k5 mN, h.get? C = some (excClassObj nm qn C N bs bm hdct sn sub ab col dd k0 k1 k2 k3 k5 newId) ∧ h.Ns N mN ∧ mN "__init__" = none ∧ OwnTail h bmB bm := by
  unfold PySem.W.excIn at q
  split at q
  · rename_i dd cd sl ho
    split at q
    · rename_i C' bm k0 k1 k2 k3 n k5 hm hs
      simp only [Bool.and_eq_true, beq_iff_eq, Bool.not_eq_true'] at q
      obtain ⟨⟨⟨⟨⟨e1, e2⟩, hdel⟩, ht⟩, hok⟩, hni⟩ := q
      subst e1; subst e2
      obtain ⟨nm, bs, mro, ns, qn, hd, sn, sub, ab, col, del⟩ := cd
      dsimp only at hm hdel hok hni
      subst hm; subst hdel
      obtain ⟨l⟩ := sl
      have hs' : l = [k0, k1, k2, k3, some (.builtin n), k5] := hs
      subst hs'
      exact ⟨bm, ns, nm, qn, bs, hd, sn, sub, ab, col, dd, k0, k1, k2, k3, k5, _, X _ _ ho, .of_isNs (PySem.W.isNs_of_in X hok), PySem.W.nsMap_none_of_in X hok hni, PySem.W.tail_of_in X ht⟩
    · cases q
  · cases q

/-- a def of the text whose exceptions leave by CX1: what its context wishes -/
def RaiseX (X : Cx) (E : XK) : Prop := ∀ e s', wpAny (model X.prog X.w) X.A (leaving X.env e) (fun _ s'' => CX1 X.prog X.w X.outer X.H₀ X.s₀ E e s'') (fun e' s'' => CX1 X.prog X.w X.outer X.H₀ X.s₀ E e' s'') s' → X.xe e s'

section
variable {X : Cx} {E E' : XK} {x : Str} {C : Addr} {e₀ : Expr} {rest : List Expr} {ta : TA} {np cpos pos : Pos}
def tRaise (C : Addr) (E : XK) (ta : TA) : TS := fun _ σ H => ta σ H fun vs H1 => vs.length ≤ sizeLine ∧ E (.ref C) none H1
theorem ps_raise (hR : RaiseX X E) (hx : X.ex = []) (hst : X.stack = X.env :: X.outer) (hfr : X.env.frame = some X.env.locals) (hc : X.calm = true) (K : ExcCl X.K X.mg x C) (hg : Gl X x) (ha : PA X (e₀ :: rest) ta)
    (he : starEach (e₀ :: rest) X.env = (false, eval e₀ X.env) :: starEach rest X.env := by rfl) (hp : (backTo cpos (starEach rest X.env)).any (·.1) = false := by rfl) (hd : (x == ("__debug__" : Str)) = false := by decide) :
    PS X (.Raise (some (.Call (.Name x np) (e₀ :: rest) [] cpos)) none pos) (tRaise C E ta) := by
  intro pins s σ H D I h
  obtain ⟨bm, N, nm, qn, bs, hdct, sn, sub, ab, col, dd, k0, k1, k2, k3, k5, mN, hC, hN, hni, T⟩ := exc_obj I.mod.kin K.ok
  refine wpAny_Raise_call_subU (C := C) (nm := nm) (q := qn) (N := N) (bs := bs) (bm := bm) (hdct := hdct) (sn := sn) (sub := sub) (ab := ab) (col := col) (dd := dd) (k0 := k0) (k1 := k1) (k2 := k2) (k3 := k3) (k5 := k5)
    PySem.F.excBase_ValueError rfl PySem.F.excBase_ValueError (mN := mN) (T.hasType PySem.F.excBase_ValueError.hasBase) (I.ok.hd hc) (by rw [he]; exact hp) hni (ld_glob I hg K.mg ⟨rfl, ?_⟩ hd)
  have r := ha cpos pins s σ H _ I h
  rw [he] at r ⊢
  refine Calls.evalArgs_plain (thn r fun us s1 ⟨vs, H1, I1, rv, hl, q⟩ => ?_)
  refine ⟨rfl, by rw [← rv.length]; exact hl, I1.bk _ _ hC, hN.keeps I1.bk, T.keeps I1.bk, fun h' e hm => hR _ _ ?_⟩
  exact fly_made I1 hx hst hfr hm fun B a0 s'' F => ⟨e, _, a0, B, H1, rfl, F, q⟩
/-- an exception of a callee passes through this def -/
theorem passes1 (hR : RaiseX X E) (hx : X.ex = []) (hst : X.stack = X.env :: X.outer) (hfr : X.env.frame = some X.env.locals) (hE : ∀ c d H', E' c d H' → E c d H') : Passes (CX1 X.prog X.w) X E' := by
  intro pins σ H s e s' I h
  obtain ⟨a, cls, a0, B, H', rfl, F, q⟩ := h
  exact hR _ _ (fly_leave I hx hst hfr F fun s'' F' => ⟨a, cls, a0, B, H', rfl, F', hE _ _ _ q⟩)
end

/-- THE RULE for a def that may raise -/
theorem Fun.okX {P : Program} {w : World} {K : PySem.W.Frag} {mg : Str → Option Value} {base : Heap} {x qual : Str} {st : Stmt} {f : Addr} {fd : FuncData} {N ps : List Str} {k : Nat} {sp : Sp} (F : Fun K x qual st f fd) (S : FnScope N ps (defScope st)) (len : ∀ vs H Q E, sp vs H Q E → vs.length = ps.length)
    (hbody : ∀ (cdv : Value) (A : Around) (outer : List Env) (s : Shared) (H : Hp) (vs : List V) (Q : VK) (E : XK), Room k (A.deeper (envOfC qual (defScope st) s.heap.objs.size f cdv)) → sp vs H Q E →
      ∃ t, PSs (cxOf (CX1 P w) P w K mg base N qual (defScope st) f cdv A outer s H E) (defBody st) t ∧ t { nx := fun _ H' => Q .non H', rt := Q } (start N vs) H) : FnOk P w K mg base (CX1 P w) (k + 1) f fd ps sp := by
  obtain ⟨oc, od, kV, doc, pm, an, cdv, ct, osl, rfl, lk, hcd⟩ := F.ex
  exact fn_of lk hcd S len fun A outer s H vs Q E hr hsp => hbody cdv A outer s H vs Q E hr hsp
theorem raiseX {P : Program} {w : World} {K : PySem.W.Frag} {mg : Str → Option Value} {base : Heap} {N : List Str} {qual : Str} {scope : Scope} {f : Addr} {cd : Value} {A : Around} {outer : List Env} {s : Shared} {H : Hp} {E : XK} :
    RaiseX (cxOf (CX1 P w) P w K mg base N qual scope f cd A outer s H E) E := fun _ _ h => h

/-- a caught exception at a, of class cls -/
def excO (a : Addr) (cls : Value) : HO := .ext fun h => ∃ o vs, h.get? a = some o ∧ o.cls = cls ∧ o.data = .fields vs

/-- other pins that every state bears, another wish -/
abbrev Cx.guard (X : Cx) (ps : List (Addr × Obj)) (E : Value → Shared → Prop) : Cx := { X with pn := ps, xe := E }
theorem Cx.Ok.guard {X : Cx} (ok : X.Ok) (ps : List (Addr × Obj)) (E : Value → Shared → Prop) : (X.guard ps E).Ok :=
  ⟨ok.mod, ok.kind, ok.glob, ok.blt, ok.above, ok.inj, ok.has, ok.cab, ok.hd, ok.frames, ok.stk, ok.exf, ok.bs, ok.bsz, ok.noex, ok.exfs, ok.funs, ok.frf⟩
theorem Cx.Ok.unguard {X : Cx} {ps : List (Addr × Obj)} {E : Value → Shared → Prop} (ok : (X.guard ps E).Ok) : X.Ok :=
  ⟨ok.mod, ok.kind, ok.glob, ok.blt, ok.above, ok.inj, ok.has, ok.cab, ok.hd, ok.frames, ok.stk, ok.exf, ok.bs, ok.bsz, ok.noex, ok.exfs, ok.funs, ok.frf⟩
/-- within an except suite -/
abbrev Cx.marked (X : Cx) (a : Addr) : Cx := { X with A := X.A.mark (some (.ref a)), calm := false, xe := fun _ _ => False }
theorem Cx.Ok.marked {X : Cx} (ok : X.Ok) (a : Addr) : (X.marked a).Ok :=
  ⟨ok.mod, ok.kind, ok.glob, ok.blt, ok.above, ok.inj, ok.has, ok.cab, (fun z => nomatch z), ok.frames, ok.stk, ok.exf, ok.bs, ok.bsz, ok.noex, ok.exfs, ok.funs, ok.frf⟩
section
variable {X : Cx} {pins : List (Addr × Obj)} {σ : St} {H : Hp} {s : Shared} {E : Value → Shared → Prop} {a : Addr}
theorem Inv.guard (I : Inv X pins σ H s) (E : Value → Shared → Prop) : Inv (X.guard (X.pn ++ pins) E) [] σ H s := ⟨I.ok.guard _ E, I.os, I.bare, I.base, I.loc, I.cell, I.free, I.freeC, fun p hp => I.pin p (by simpa using hp), I.hok, I.len⟩
theorem Inv.unguard {ps : List (Addr × Obj)} (I : Inv (X.guard (X.pn ++ pins) E) ps σ H s) : Inv X pins σ H s := ⟨I.ok.unguard, I.os, I.bare, I.base, I.loc, I.cell, I.free, I.freeC, fun p hp => I.pin p (List.mem_append_left _ hp), I.hok, I.len⟩
theorem Inv.marked (I : Inv X pins σ H s) (a : Addr) : Inv (X.marked a) pins σ H s := ⟨I.ok.marked a, I.os, I.bare, I.base, I.loc, I.cell, I.free, I.freeC, I.pin, I.hok, I.len⟩
theorem Inv.unmarked (I : Inv (X.marked a) pins σ H s) (ok : X.Ok) : Inv X pins σ H s := ⟨ok, I.os, I.bare, I.base, I.loc, I.cell, I.free, I.freeC, I.pin, I.hok, I.len⟩
end

/-- the ends of a suite, behind which the name in slot i is gone -/
def Ends.gone (D : Ends) (i : Nat) : Ends := { nx := fun σ H => D.nx (σ.set i none) H, rt := D.rt, bk := fun σ H => D.bk (σ.set i none) H, ct := fun σ H => D.ct (σ.set i none) H }
/-- what is wanted of an exception that the suite ts (its name in slot i of n) catches; QC: the clause's class -/
def xTry (K : PySem.W.Frag) (QC : Value) (n i : Nat) (ts : TS) (D : Ends) : XK := fun cls _ H => PySem.W.exmOne K cls QC = some true ∧ ∀ a, H a = none → ts (D.gone i) ((List.replicate n none).set i (some (.ref a))) (upd H a (excO a cls))
def tTry (K : PySem.W.Frag) (QC : Value) (n i : Nat) (tb : XK → TS) (ts : TS) : TS := fun D σ H => tb (xTry K QC n i ts D) D σ H

section
variable {X : Cx} {QC : Value} {x n : Str} {i : Nat} {body suite : List Stmt} {b₀ : Stmt} {tb : XK → TS} {ts : TS} {np hpos pos : Pos}
theorem ps_try (hst : X.stack = X.env :: X.outer) (hfr : X.env.frame = some X.env.locals) (hg : Gl X x) (hm : X.mg x = some QC) (hN : X.N.Nodup) (hi : X.N[i]? = some n) (hL : X.env.scope.names.lookup n = some .local)
    (hb : ∀ (ps : List (Addr × Obj)) (xe : Value → Shared → Prop) (E : XK), Passes (CX1 X.prog X.w) (X.guard ps xe) E → PSs (X.guard ps xe) body (tb E))
    (hs : ∀ a, PSs (X.marked a) (b₀ :: suite) ts) (hd : (x == ("__debug__" : Str)) = false := by decide) :
    PS X (.Try body [.ExceptHandler (some (.Name x np)) (some n) (b₀ :: suite) hpos] [] [] pos) (tTry X.K QC X.N.length i tb ts) := by
  intro pins s σ H D I h
  have okX := I.ok
  refine wpAny_Try_except ?_
  have P1 : Passes (CX1 X.prog X.w) (X.guard (X.pn ++ pins) fun e s₁ => wpAny (model X.prog X.w) X.A (noteFrame e X.env) (fun _ s₂ => wpAny (model X.prog X.w) X.A (setFlight e none) (fun _ s₃ => wpAny (model X.prog X.w) X.A (handleBy e X.env [.ExceptHandler (some (.Name x np)) (some n) (b₀ :: suite) hpos]) (SP X pins D) X.xe s₃) X.xe s₂) X.xe s₁) (xTry X.K QC X.N.length i ts D) := by
    intro ps' σ' H1 s1 e s2 I1 hx
    obtain ⟨a, cls, a0, B, H2, rfl, F, hm1, q⟩ := hx
    have J1 : Inv X pins σ' H1 s1 := I1.unguard
    have fl : Heap.FlyingW B (X.env :: X.outer) a cls a0 s2.heap := hst ▸ F.fly
    show wpAny (model X.prog X.w) X.A (noteFrame (.ref a) X.env) _ X.xe s2
    refine wpAny_looks_onW (by rw [okX.frames, hst]) hfr fl fun h3 held3 us3 => ?_
    refine wpAny_landsW held3 fun h4 fl4 us4 => ?_
    have J4 : Inv X pins σ' H2 { s2 with heap := h4 } := fly_inv J1 F fl4.1 (us3.trans us4)
    refine wpAny_handleBy_cons (codeAny_handlers_test ?_) (by intro q; cases q)
    refine ld_glob (X := X.marked a) (J4.marked a) hg hm ?_ hd
    obtain ⟨ob, hob, hcl⟩ := fl4.there
    have LT : PySem.W.Looks (model X.prog X.w) h4 (typeOf (.ref a)) cls := hcl ▸ (PySem.W.Looks.ld hob).andThen PySem.W.Looks.now
    refine (PySem.W.exm_one (K := X.K) J4.kIn LT hm1).here ?_
    show codeAny (model X.prog X.w) (X.A.mark (some (.ref a))) (.handlers (.ref a) [.ExceptHandler none (some n) (b₀ :: suite) hpos] X.env) _ _
    refine codeAny_handlers_suite_as ?_
    refine lands_againW fl4 fun h5 fl5 us5 => ?_
    have us : s2.heap.UpToSlots h5 := (us3.trans us4).trans us5
    obtain ⟨oe, vs, hoe, hoc, hod, _⟩ := fl5.first
    have na : H2 a = none := F.out
    have J5 : Inv X pins (List.replicate X.N.length none) (upd H2 a (excO a cls)) { s2 with heap := h5 } := by
      have u := F.un' fl5.1 us
      have k0 := F.hok' fl5.1
      refine Inv.weak (σ := σ') (J1.call' (s' := { s2 with heap := h5 }) (ch := []) F.os ⟨u.keep, u.slot, fun b o e m hx => ?_, u.there, fun b xs e => ?_, fun b o v e => ?_, fun b p e => ?_⟩ (fun b u' e => ?_) F.bare fun b hb => absurd hb (by simp)) (by rw [List.length_replicate]; exact J1.len.symm) fun j v e => ?_
      · have : b ≠ a := fun z => by rw [z, F.new] at e; cases e
        rw [upd_ne this]; exact u.free b o e m hx
      · have e1 := u.tups b xs e
        rw [upd_ne (ne_of_none e1 na)]; exact e1
      · have e1 := u.frzs b o v e
        rw [upd_ne (ne_of_none e1 na)]; exact e1
      · obtain ⟨more, e1⟩ := u.tbls b p e
        exact ⟨more, by rw [upd_ne (ne_of_none e1 na)]; exact e1⟩
      · by_cases hba : b = a
        · subst hba
          rw [upd_same] at e
          cases e
          exact ⟨⟨oe, vs, hoe, hoc, hod⟩, ⟨oe, hoe⟩, fun h1 h2 ⟨o, ws, e1, e2, e3⟩ k => ⟨o, ws, k o e1, e2, e3⟩⟩
        · rw [upd_ne hba] at e
          refine (k0 b u' e).stay (fun c v _ q => q) (fun c q => ?_) fun c xs q => ?_
          · rw [upd_ne (ne_of_none q na)]; exact q
          · rw [upd_ne (ne_of_none q na)]; exact q
      · rw [List.getElem?_replicate] at e
        split at e <;> cases e
    refine store_ok (X := X.marked a) (v := .ref a) (i := i) (J5.marked a) hN hi (.inl hL) rfl (fun s6 I6 => ?_) (.inr hL)
    refine wpAny_mono (hs a pins s6 _ _ (D.gone i) I6 (q a na)) (fun f s7 h7 => ?_) fun _ _ z => z.elim
    have fin : ∀ {σ7 : St} {H7 : Hp} {R : Unit → Shared → Prop}, Inv (X.marked a) pins σ7 H7 s7 → (∀ s8, Inv X pins (σ7.set i none) H7 s8 → R () s8) → wpAny (model X.prog X.w) X.A (do bindName X.env n .none; unbindBehindTheSuite X.env n hpos) R X.xe s7 := by
      intro σ7 H7 R I7 hq
      have J7 : Inv X pins σ7 H7 s7 := I7.unmarked okX
      refine wpAny_bind (wpAny_bindName (store_ok J7 hN hi (.inl hL) (v := .non) (u := .none) rfl (fun s8 I8 => ?_) (.inr hL)))
      unfold unbindBehindTheSuite
      refine wpAny_onRaise ?_
      obtain ⟨m, hn, hl⟩ := id I8.loc
      have hiσ : i < σ7.length := by rw [J7.len]; exact (List.getElem?_eq_some_iff.mp hi).1
      obtain ⟨u, ru, lk⟩ := hl i n .non hi (by rw [List.getElem?_set_self hiσ]) (.inl hL)
      have hmn : m n = some u := by
        rcases lk with ⟨_, z⟩ | ⟨k, _⟩
        · exact z
        · have hL' : X.env.kindOf n = some .local := hL
          rcases k with k | k <;> (rw [hL'] at k; cases k)
      have hcls : (X.env.scope.kind == .class || (X.env.scope.kind == .module && X.env.locals != X.env.globals)) = false := by rw [okX.kind]; rfl
      refine wpAny_unbindName_local (m := m) hL hn hmn hcls fun h9 u9 hn9 sb9 => hq _ ?_
      obtain ⟨oL, _, _, hoL, _⟩ := id hn
      have I9 : Inv X pins ((σ7.set i (some .non)).set i none) H7 { s8 with heap := h9 } := by
        have neL : ∀ b o, X.s₀.heap.get? b = some o → b ≠ X.env.locals := fun b o e => Nat.ne_of_lt (Nat.lt_of_lt_of_le (Heap.lt_size e) okX.above)
        refine ⟨okX, I8.os, I8.bare, ⟨fun b o e n' hb hx' => ?_, fun b o e n' hb hx' => ?_, I8.base.free, fun b o e hx' => ?_, I8.base.tups, I8.base.frzs, I8.base.tbls⟩, ⟨_, hn9, fun j y v' e1 e2 e3 => ?_⟩, fun y c e => ?_, I8.free, I8.freeC, fun p hp => ?_, fun b ob e => ?_, by simpa using I8.len⟩
        · exact (sb9.2 b (neL b o e)).trans (I8.base.keep b o e n' hb hx')
        · obtain ⟨sl, z⟩ := I8.base.slot b o e n' hb hx'
          exact ⟨sl, (sb9.2 b (neL b o e)).trans z⟩
        · obtain ⟨o', z⟩ := I8.base.there b o e hx'
          exact ⟨o', (sb9.2 b (neL b o e)).trans z⟩
        · have hj : j ≠ i := fun z => by
            subst z
            rw [List.getElem?_set_self (by simpa using hiσ)] at e2
            cases e2
          rw [List.getElem?_set_ne (Ne.symm hj)] at e2
          obtain ⟨u', r', q'⟩ := hl j y v' e1 e2 e3
          refine ⟨u', r', ?_⟩
          rcases q' with ⟨k, z⟩ | ⟨k, c, z, y'⟩
          · refine .inl ⟨k, ?_⟩
            have ny : y ≠ n := fun z => hj (nodup_ix hN e1 (z ▸ hi))
            simp [ny, z]
          · exact .inr ⟨k, c, z, y'.sameBut sb9 (I8.cne y c z)⟩
        · obtain ⟨v, z⟩ := I8.cell y c e
          exact ⟨v, z.sameBut sb9 (I8.cne y c e)⟩
        · obtain ⟨e, n', ne, nf, d⟩ := I8.pin p hp
          exact ⟨(sb9.2 p.1 ne).trans e, n', ne, nf, d⟩
        · refine (I8.hok b ob e).stay (fun c v hc q' => (sb9.2 c ?_).trans q') (fun _ q' => q') fun _ _ q' => q'
          intro z
          have z' := I8.free
          rcases hc with y | y
          · rw [← z, y, e] at z'; cases z'
          · rw [← z, y] at z'; cases z'
      rw [List.set_set] at I9
      exact I9
    cases f with
    | next =>
      obtain ⟨σ7, H7, I7, q7⟩ := h7
      exact fin I7 fun s8 I8 => ⟨_, H7, I8, q7⟩
    | brk =>
      obtain ⟨σ7, H7, I7, q7⟩ := h7
      exact fin I7 fun s8 I8 => ⟨_, H7, I8, q7⟩
    | cont =>
      obtain ⟨σ7, H7, I7, q7⟩ := h7
      exact fin I7 fun s8 I8 => ⟨_, H7, I8, q7⟩
    | ret v =>
      obtain ⟨v', σ7, H7, I7, r7, q7⟩ := h7
      exact fin I7 fun s8 I8 => ⟨v', _, H7, I8, r7, q7⟩
  have back : ∀ {f : Flow} {s' : Shared} {E : Value → Shared → Prop}, SP (X.guard (X.pn ++ pins) E) [] D f s' → SP X pins D f s' := fun {f s' E} q => by
    cases f with
    | next => obtain ⟨σ', H', J, z⟩ := q; exact ⟨σ', H', J.unguard, z⟩
    | brk => obtain ⟨σ', H', J, z⟩ := q; exact ⟨σ', H', J.unguard, z⟩
    | cont => obtain ⟨σ', H', J, z⟩ := q; exact ⟨σ', H', J.unguard, z⟩
    | ret u => obtain ⟨v, σ', H', J, r, z⟩ := q; exact ⟨v, σ', H', J.unguard, r, z⟩
  refine wpAny_mono (hb (X.pn ++ pins) _ _ P1 [] s σ H D (I.guard _) h) (fun f s' q => ?_) fun _ _ z => z
  have q' := back q
  cases f with
  | next => exact wpAny_execs_nil q'
  | brk => exact q'
  | cont => exact q'
  | ret u => exact q'
end
end L2


namespace L2
open PySem PySem.Spec PyProof.Rows

inductive Dt where
  | non | bl (b : Bool) | int (i : Int) | str (x : Str) | lst (ds : List Dt) | tup (ds : List Dt)

mutual
def Rep (K : PySem.W.Frag) (H : Hp) : Dt → V → Prop
  | .non, v => v = .non
  | .bl b, v => v = .bl b
  | .int i, v => v = .int i
  | .str x, v => v = .str x
  | .lst ds, v => ∃ a xs, v = .ref a ∧ SqL K H a xs ∧ Reps K H ds xs
  | .tup ds, v => ∃ a xs, v = .ref a ∧ SqT K H a xs ∧ Reps K H ds xs
def Reps (K : PySem.W.Frag) (H : Hp) : List Dt → List V → Prop
  | [], xs => xs = []
  | d :: ds, xs => ∃ x r, xs = x :: r ∧ Rep K H d x ∧ Reps K H ds r
end
mutual
theorem Rep.same {K : PySem.W.Frag} {H H' : Hp} (e : Same H H') : ∀ {d : Dt} {v : V}, Rep K H d v → Rep K H' d v
  | .non, _, h => by unfold Rep at h ⊢; exact h
  | .bl _, _, h => by unfold Rep at h ⊢; exact h
  | .int _, _, h => by unfold Rep at h ⊢; exact h
  | .str _, _, h => by unfold Rep at h ⊢; exact h
  | .lst ds, _, h => by
    unfold Rep at h ⊢
    obtain ⟨a, xs, rfl, q, r⟩ := h
    exact ⟨a, xs, rfl, e.seq q, Reps.same e r⟩
  | .tup ds, _, h => by
    unfold Rep at h ⊢
    obtain ⟨a, xs, rfl, q, r⟩ := h
    exact ⟨a, xs, rfl, e.tup q, Reps.same e r⟩
theorem Reps.same {K : PySem.W.Frag} {H H' : Hp} (e : Same H H') : ∀ {ds : List Dt} {vs : List V}, Reps K H ds vs → Reps K H' ds vs
  | [], _, h => by unfold Reps at h ⊢; exact h
  | d :: ds, _, h => by
    unfold Reps at h ⊢
    obtain ⟨x, r, rfl, q, t⟩ := h
    exact ⟨x, r, rfl, Rep.same e q, Reps.same e t⟩
end
theorem Reps.length {K : PySem.W.Frag} {H : Hp} : ∀ {ds : List Dt} {vs : List V}, Reps K H ds vs → vs.length = ds.length
  | [], _, h => by unfold Reps at h; rw [h]; rfl
  | d :: ds, _, h => by
    unfold Reps at h
    obtain ⟨x, r, rfl, q, t⟩ := h
    rw [List.length_cons, List.length_cons, Reps.length t]

section
variable {X : Cx} {pins : List (Addr × Obj)} {σ : St} {H : Hp} {s : Shared}
end

section
variable {X : Cx}
theorem count_eqU {x : V} : ∀ {xs : List V} {us : List Value}, Vals xs us → xs.all flatV = true → us.countP (eqU x) = xs.countP fun y => eqV y x
  | _, _, .nil, _ => rfl
  | y :: ys, u :: us, .cons r t, h => by
    simp only [List.all_cons, Bool.and_eq_true] at h
    rw [List.countP_cons, List.countP_cons, count_eqU t h.2, eqU_of r h.1]
def rCount (K : PySem.W.Frag) : V → List V → Hp → VK → Prop := fun x vs H Q => ∃ a xs v, x = .ref a ∧ vs = [v] ∧ SqL K H a xs ∧ xs.all flatV = true ∧ flatV v = true ∧ Q (.int (xs.countP fun y => eqV y v : Nat)) H
theorem mt_count : MtR X "list.count" (rCount X.K) := by
  intro pins s σ H x vs v us Q I rx rv h
  obtain ⟨a, xs, w, rfl, rfl, hq, hf, hw, q⟩ := h
  cases rx
  obtain ⟨u, rfl, ru⟩ := rv.one
  obtain ⟨its, r, ⟨⟨cls, dd, data, sl⟩, n, e, hc, hdd, hd⟩, _⟩ := I.list hq
  simp only at hc hdd hd
  subst hc; subst hdd; subst hd
  refine call_meets F.slot_list_count ⟨_, e, rfl⟩ F.entry_list_count (F.args_list_count_2 _ _) (SeqAt.list_countAt a its.toArray n none sl u (eqU w)) ⟨e, fun y hy => mem_eqAt ru hw r hf y (by simpa using hy), ?_⟩
  refine ⟨.int _, H, I.tok _, ⟨_, rfl⟩, ?_⟩
  have := count_eqU (x := w) r hf
  simp only [this]
  exact q
end
end L2


namespace L2
open PySem PySem.Spec PyProof.Rows

section
variable {X : Cx}
theorem eqU_get {x : V} {xs : List V} {us : List Value} (r : Vals xs us) (hf : xs.all flatV = true) (j : Nat) (h1 : j < us.length) (h2 : j < xs.length) : eqU x us[j] = eqV xs[j] x := by
  obtain ⟨u, e, ru⟩ := r.get (i := j) (x := xs[j]) (List.getElem?_eq_getElem h2)
  rw [List.getElem?_eq_getElem h1] at e
  cases e
  exact eqU_of ru (List.all_eq_true.mp hf _ (List.getElem_mem h2))
def rIndex (K : PySem.W.Frag) : V → List V → Hp → VK → Prop := fun x vs H Q => ∃ a xs v, x = .ref a ∧ vs = [v] ∧ SqL K H a xs ∧ xs.all flatV = true ∧ flatV v = true ∧ ∃ (j : Nat) (hj : j < xs.length), eqV xs[j] v = true ∧ (∀ (m : Nat) (hm : m < xs.length), m < j → eqV xs[m] v = false) ∧ Q (.int (j : Nat)) H
theorem mt_index : MtR X "list.index" (rIndex X.K) := by
  intro pins s σ H x vs v us Q I rx rv h
  obtain ⟨a, xs, w, rfl, rfl, hq, hf, hw, j, hj, hit, hno, q⟩ := h
  cases rx
  obtain ⟨u, rfl, ru⟩ := rv.one
  obtain ⟨its, r, ⟨⟨cls, dd, data, sl⟩, n, e, hc, hdd, hd⟩, hz⟩ := I.list hq
  simp only at hc hdd hd
  subst hc; subst hdd; subst hd
  have hl := r.length
  have hs := sizeLine_eq
  refine call_meets F.slot_list_index ⟨_, e, rfl⟩ F.entry_list_index (F.args_list_index_2 _ _) (SeqAt.list_indexAt a its.toArray n none sl u (eqU w) j (by simp; omega) (by omega) ?_ fun m hm hmj => ?_) ⟨e, fun y hy => mem_eqAt ru hw r hf y (by simpa using hy), ?_⟩
  · have := eqU_get (x := w) r hf j (by omega) hj
    simpa [this] using hit
  · have hm' : m < its.length := by simpa using hm
    have := eqU_get (x := w) r hf m hm' (by omega)
    simpa [this] using hno m (by omega) hmj
  · exact ⟨.int _, H, I.tok _, ⟨_, rfl⟩, q⟩

end

/-- what the top has written of an own class of errors -/
structure ExcIs (K : PySem.W.Frag) (C : Addr) : Prop where
  ga : PySem.W.findIn K (.ref C) "__getattribute__" = some (some (.builtin "BaseException.__getattribute__"))
  gt : PySem.W.findIn K (.ref C) "__getattr__" = some none
  cl : PySem.W.findIn K (.ref C) "__class__" = some (some (.builtin "object.__class__"))
  mb : PySem.W.mroIn K C (.type "BaseException") = some true
  mo : PySem.W.mroIn K C (.type "object") = some true

section
open PySem.W
variable {K : Frag} {prog : Program} {w : World} {A : Around} {E : Value → Shared → Prop} {h : Heap} {g : Array GenState} {d : Drawn} {t : Nat} {os : OsState} {a C : Addr} {o : Obj}

theorem exc_class_get {R : Result → Shared → Prop} (KX : K.In h) (F : ExcIs K C) (hx : h.get? a = some o) (hc : o.cls = .ref C) (hq : R (.ok (.ret (.ref C))) ⟨h, g, d, t, os⟩) :
    codeAny (model prog w) A (.call (.builtin "getset_descriptor.__get__") ⟨[.builtin "object.__class__", .ref a, .ref C], []⟩) R ⟨h, g, d, t, os⟩ := by
  have hT5 : (⟨h, g, d, t, os⟩ : Shared).TypeIs (.builtin "object.__class__") "getset_descriptor" := PySem.F.typeOf_object_class
  have LS : ∀ {A : Around} {Q : Bool → Shared → Prop} {E : Value → Shared → Prop}, Q true ⟨h, g, d, t, os⟩ → wpAny (model prog w) A (isSubtype (.ref C) (.type (".".intercalate ("object.__class__".cutAt '.').dropLast))) Q E ⟨h, g, d, t, os⟩ := fun {A Q E} q => by
    rw [PySem.F.owner_object_class]
    exact (looks_mroIn KX F.mo).at q
  refine codeAny_call_builtin PySem.F.slot_gs_get.plain PySem.F.entry_gs_get (PySem.F.slot_gs_get.check _ _ _ _ _ _ _ _ hT5 (PySem.F.args_gs_get _ _ _) ?_)
  repeat (any_goals (first | assumption | (with_reducible refine wpAny_loadPart_at hx ?_; rw [hc]) | with_reducible refine LS ?_ | wp_step))
  refine ⟨Code.quiet_builtin _ (by decide +kernel), codeAny_builtin PySem.F.entry_object_class ?_⟩
  repeat (any_goals (first | assumption | (with_reducible refine wpAny_loadPart_at hx ?_; rw [hc]) | wp_step))

theorem exc_class_entry {tk : Tok} {Q : Fin → Shared → Prop} (KX : K.In h) (F : ExcIs K C) (hx : h.get? a = some o) (hc : o.cls = .ref C) (hq : Q (.done (.ret (.ref C))) ⟨h, g, d, t, os⟩) :
    wpAny (model prog w) A (Builtin.«object.__getattribute__» ⟨[.ref a, .str "__class__" tk], []⟩) Q E ⟨h, g, d, t, os⟩ := by
  have hT5 : (⟨h, g, d, t, os⟩ : Shared).TypeIs (.builtin "object.__class__") "getset_descriptor" := PySem.F.typeOf_object_class
  have f5 := PySem.F.typeOf_object_class
  have f6 := PySem.F.slot_gs_get.lookup
  have f7 := PySem.F.slot_gs_set.lookup
  have LF : ∀ {A : Around} {Q : Option Value → Shared → Prop} {E : Value → Shared → Prop}, Q (some (.builtin "object.__class__")) ⟨h, g, d, t, os⟩ → wpAny (model prog w) A (typeLookup (.ref C) "__class__") Q E ⟨h, g, d, t, os⟩ := fun {A Q E} q => (looks_findIn KX F.cl).at q
  repeat (any_goals (first | assumption | (with_reducible refine wpAny_loadPart_at hx ?_; rw [hc]) | with_reducible refine LF ?_ | wp_step))
  refine exc_class_get KX F hx hc ?_
  repeat (any_goals (first | assumption | wp_step))

theorem exc_ga_check {nv : Value} {Q : Unit → Shared → Prop} (KX : K.In h) (F : ExcIs K C) (hx : h.get? a = some o) (hc : o.cls = .ref C) (hq : Q () ⟨h, g, d, t, os⟩) :
    wpAny (model prog w) A (checkBuiltinCall "BaseException.__getattribute__" ⟨[.ref a, nv], []⟩) Q E ⟨h, g, d, t, os⟩ := by
  have hk : builtinKind "BaseException.__getattribute__" = some .slot := by decide +kernel
  have hsp : splitId "BaseException.__getattribute__" = some ("BaseException", "__getattribute__") := by decide +kernel
  have ha := PySem.F.args_bexc_ga (.ref a) nv
  have LS : ∀ {A : Around} {Q : Bool → Shared → Prop} {E : Value → Shared → Prop}, Q true ⟨h, g, d, t, os⟩ → wpAny (model prog w) A (isSubtype (.ref C) (.type "BaseException")) Q E ⟨h, g, d, t, os⟩ := fun {A Q E} q => (looks_mroIn KX F.mb).at q
  simp only [checkBuiltinCall, hk, hsp]
  refine wpAny_bind ?_
  unfold isInstance
  repeat (first | (with_reducible refine wpAny_loadPart_at hx ?_; rw [hc]) | with_reducible refine LS ?_ | wp_step)
  exact hq
theorem exc_class_call {tk : Tok} {R : Result → Shared → Prop} (KX : K.In h) (F : ExcIs K C) (hx : h.get? a = some o) (hc : o.cls = .ref C) (hq : R (.ok (.ret (.ref C))) ⟨h, g, d, t, os⟩) :
    codeAny (model prog w) A (.call (.builtin "BaseException.__getattribute__") ⟨[.ref a, .str "__class__" tk], []⟩) R ⟨h, g, d, t, os⟩ :=
  codeAny_call_builtin PySem.F.excAttr_ValueError.ga.plain PySem.F.entry_bexc_ga (exc_ga_check KX F hx hc (exc_class_entry KX F hx hc hq))

theorem exc_class_by {tk : Tok} {Q : Value → Shared → Prop} (KX : K.In h) (F : ExcIs K C) (hx : h.get? a = some o) (hc : o.cls = .ref C) (hq : Q (.ref C) ⟨h, g, d, t, os⟩) :
    wpAny (model prog w) A (getAttrBy (.ref a) (.str "__class__" tk) false) Q E ⟨h, g, d, t, os⟩ := by
  have LG : ∀ {A : Around} {Q : Option Value → Shared → Prop} {E : Value → Shared → Prop}, Q (some (.builtin "BaseException.__getattribute__")) ⟨h, g, d, t, os⟩ → wpAny (model prog w) A (typeLookup (.ref C) "__getattribute__") Q E ⟨h, g, d, t, os⟩ := fun {A Q E} q => (looks_findIn KX F.ga).at q
  have LN : ∀ {A : Around} {Q : Option Value → Shared → Prop} {E : Value → Shared → Prop}, Q none ⟨h, g, d, t, os⟩ → wpAny (model prog w) A (typeLookup (.ref C) "__getattr__") Q E ⟨h, g, d, t, os⟩ := fun {A Q E} q => (looks_findIn KX F.gt).at q
  have hx2 : (Value.builtin "BaseException.__getattribute__" == Value.builtin "object.__getattribute__") = false := by decide +kernel
  have hx1 : (onTheHeap (Value.ref C) && Value.builtin "BaseException.__getattribute__" == Value.builtin "object.__getattribute__") = false := by rw [hx2]; rfl
  have f3 := PySem.F.excAttr_ValueError.ga.bind (.ref a)
  repeat (any_goals (first | assumption | (with_reducible refine wpAny_loadPart_at hx ?_; rw [hc]) | with_reducible refine LG ?_ | with_reducible refine LN ?_ | wp_step))
  refine exc_class_call KX F hx hc ?_
  repeat (any_goals (first | assumption | wp_step))

theorem exc_class_attr {Q : Option Value → Shared → Prop} (KX : K.In h) (F : ExcIs K C) (hx : h.get? a = some o) (hc : o.cls = .ref C) (hq : Q (some (.ref C)) ⟨h, g, d, t + 1, os⟩) :
    wpAny (model prog w) A (getAttr? (.ref a) "__class__") Q E ⟨h, g, d, t, os⟩ := by
  unfold getAttr? getAttrBy?
  repeat (any_goals (first | assumption | with_reducible apply exc_class_by KX F hx hc | wp_step))

/-- the object of a caught exception -/
def ExcOb (a : Addr) (C : Addr) (h : Heap) : Prop := ∃ o vs, h.get? a = some o ∧ o.cls = .ref C ∧ o.data = .fields vs
theorem kitx_exc (F : ExcIs K C) : KitX K (.ref a) (.ref C) (ExcOb a C) where
  ty := fun M h _ ⟨o, vs, h1, h2, _⟩ => h2 ▸ (Looks.ld h1).andThen .now
  it := fun M h KX _ => by
    obtain ⟨cd, hc, _⟩ := Option.bind_eq_some_iff.mp F.mo
    unfold clsIn at hc
    split at hc
    · rename_i c' d' cd' sl' ho
      intro A' Q' E' s' k q
      unfold isType loadHead
      exact wpAny_bind (wpAny_loadPart (k _ _ (KX _ _ ho)) (wpAny_pure q))
    · cases hc
  ne := fun h tp dd its n sl KX htp => by
    obtain ⟨cd, hc, _⟩ := Option.bind_eq_some_iff.mp F.mo
    refine Bool.eq_false_iff.mpr fun q => ?_
    have e : C = tp := Value.ref.inj (beq_iff_eq.mp q)
    subst e
    unfold clsIn at hc
    split at hc
    · rename_i c' d' cd' sl' ho
      have z := (KX _ _ ho).symm.trans htp
      cases z
    · cases hc
  ca := fun {prog w A E Q s} KX ⟨o, vs, h1, h2, _⟩ k => by
    obtain ⟨h, g, d, t, os⟩ := s
    exact exc_class_attr KX F h1 h2 k
end

section
variable {X : Cx}
/-- a class as a value -/
def clsV : V → Value
  | .ref a => .ref a
  | .ty n => .type n
  | _ => .none
/-- the type of a value, that of a caught exception too -/
inductive TyV (K : PySem.W.Frag) (H : Hp) : V → Value → Prop where
  | of {x : V} {t : Value} (h : TyOf K H x t) : TyV K H x t
  | exc {a C : Addr} (e : H a = some (excO a (.ref C))) (F : ExcIs K C) : TyV K H (.ref a) (.ref C)
theorem call_isinstance : CallR X (.builtin "isinstance") (fun xs H Q => ∃ x c t b, xs = [x, c] ∧ ((∃ a, c = .ref a) ∨ ∃ n, c = .ty n) ∧ TyV X.K H x t ∧ PySem.W.kitOne X.K t (clsV c) = some b ∧ Q (.bl b) H) := by
  intro pins s σ H xs us Q I r h
  obtain ⟨x, c, t, b, rfl, hc, ht, hk, q⟩ := h
  obtain ⟨u, cv, rfl, ru, rc⟩ := vals2 r
  have ec : cv = clsV c := by
    rcases hc with ⟨a, rfl⟩ | ⟨n, rfl⟩ <;> exact rc
  subst ec
  have fin : ∀ tk, EP X pins σ Q (.bool b) { s with toks := tk } := fun tk => ⟨.bl b, H, I.tok _, rfl, q⟩
  cases ht with
  | of ht => exact isinst_ok I ru ht hk fin
  | @exc a C e F =>
    cases (show u = Value.ref a from ru)
    obtain ⟨⟨o, vs, h1, h2, h3⟩, _⟩ := (show ObjOk X.prog X.w H s.heap a (excO a (.ref C)) from I.hok a _ e)
    exact PySem.W.kia_one (kitx_exc F) I.kIn ⟨o, vs, h1, h2, h3⟩ hk (fun z => nomatch z) fin
end
end L2


namespace L2
open PySem PySem.Spec PyProof.Rows

/-- a def of the top: its object, how it binds, its name -/
structure Def (K : PySem.W.Frag) (mg : Str → Option Value) (x : Str) (st : Stmt) (f : Addr) (fd : FuncData) (ps : List Str) : Prop where
  fn : Fun K x x st f fd
  bd : Binds K fd ps []
  mg : mg x = some (.ref f)
section
variable {X : Cx} {CX : CXT} {k : Nat} {f : Addr} {fd : FuncData} {ps : List Str} {sp : Sp} {E : XK} {x : Str} {st : Stmt} {p pos : Pos} {e : Expr} {es : List Expr} {t : TA}
theorem pe_callD (D : Def X.K X.mg x st f fd ps) (F : FnOk X.prog X.w X.K X.mg X.base CX k f fd ps sp) (hr : Room k X.A) (hx : Passes CX X E) (ha : PA X (e :: es) t) (hg : Gl X x := by rfl)
    (hdb : (x == ("__debug__" : Str)) = false := by decide) (he : starEach (e :: es) X.env = (false, eval e X.env) :: starEach es X.env := by rfl) (hpl : (backTo pos (starEach es X.env)).any (·.1) = false := by rfl) :
    PE X (.Call (.Name x p) (e :: es) [] pos) (tCall sp [] E t) := pe_call F hr hg D.mg D.fn.kp D.bd .nil hx ha hdb he hpl
end

section
variable {K : PySem.W.Frag} {ix : List (Option Nat)} {te : TE} {σ : St} {H1 : Hp} {Q : Addr → Hp → Prop}
theorem comp_val_map {fv : Nat → V} {n i₀ : Nat} (f : Nat → V) (hz : n ≤ sizeLine)
    (hs : ∀ (i : Nat) (H : Hp) (R : VK), i < n → Same H1 H → (∀ H6, Same H H6 → R (f i) H6) → te ((capt ix σ).set i₀ (some (fv i))) H R)
    (hd : ∀ D H, H1 D = none → Same H1 H → H D = some (.lst ((List.range n).map f)) → Q D H) : CompW (Itv fv n) ix (gName i₀) tYes te σ H1 Q := by
  intro D hD
  refine ⟨fun i m ys H => m = n - i ∧ i ≤ n ∧ Same H1 H ∧ ys = (List.range i).map f, ⟨n, by simp, Nat.zero_le _, Same.new hD _, by simp⟩, ?_⟩
  rintro i m ys H ⟨rfl, hi, sm, p⟩ hDl
  by_cases hlt : i < n
  · refine .inr ⟨hlt, fun x H3 y => ?_⟩
    obtain ⟨e, y⟩ := y
    subst e; subst y
    show te ((capt ix σ).set i₀ (some (fv i))) _ _
    refine hs i _ _ hlt sm fun H6 r1 => ?_
    refine ⟨r1 _ _ hDl, ?_, n - (i + 1), by omega, rfl, hlt, (sm.trans r1).put hD _, ?_⟩
    · rw [p, List.length_map, List.length_range]; omega
    · rw [p, List.range_succ, List.map_append]; rfl
  · have e : i = n := by omega
    subst e
    exact .inl ⟨Nat.le_refl _, hd D H hD sm (by rw [hDl, p])⟩
end
end L2


namespace L2
open PySem PySem.Spec PyProof.Rows

def Gv (t : TE) (σ : St) (H : Hp) (v : V) : Prop := ∀ R : VK, (∀ H', Same H H' → R v H') → t σ H R
def Gt (t : TT) (σ : St) (H : Hp) (b : Bool) : Prop := ∀ R : Bool → Hp → Prop, (∀ H', Same H H' → R b H') → t σ H R
def Ga (t : TA) (σ : St) (H : Hp) (vs : List V) : Prop := ∀ R : List V → Hp → Prop, (∀ H', Same H H' → R vs H') → t σ H R
section
variable {σ : St} {H : Hp} {ta tb tc te : TE} {t u : TT} {tt : TA} {v x y : V} {p q b : Bool} {i j k : Int}
theorem gv_var {n : Nat} (h : σ[n]? = some (some v)) : Gv (tVar n) σ H v := fun R r => ⟨v, h, r H (Same.refl H)⟩
theorem gv_c : Gv (tC v) σ H v := fun R r => r H (Same.refl H)
theorem gv_to {R : VK} (h : Gv te σ H v) (r : ∀ H', Same H H' → R v H') : te σ H R := h R r
theorem gv_eq (h : Gv te σ H x) (e : x = y) : Gv te σ H y := e ▸ h
theorem gt_eq (h : Gt t σ H p) (e : p = q) : Gt t σ H q := e ▸ h
theorem gt_not (h : Gt t σ H b) : Gt (tNot t) σ H (!b) := fun R r => h _ fun H' s => r H' s
theorem gt_and (h : Gt t σ H p) (g : p = true → ∀ H', Same H H' → Gt u σ H' q) : Gt (tAnd t u) σ H (p && q) := fun R r => h _ fun H' s => by
  cases p with
  | true => rw [if_pos rfl]; exact g rfl H' s _ fun H2 s2 => r H2 (s.trans s2)
  | false => rw [if_neg Bool.false_ne_true]; exact r H' s
theorem gt_or (h : Gt t σ H p) (g : p = false → ∀ H', Same H H' → Gt u σ H' q) : Gt (tOr t u) σ H (p || q) := fun R r => h _ fun H' s => by
  cases p with
  | true => rw [if_pos rfl]; exact r H' s
  | false => rw [if_neg Bool.false_ne_true]; exact g rfl H' s _ fun H2 s2 => r H2 (s.trans s2)
theorem gt_test (h : Gv te σ H (.bl b)) : Gt (tTest te) σ H b := fun R r => h _ fun H' s => ⟨b, rfl, r H' s⟩
theorem gt_tB (h : Gv te σ H (.bl b)) : Gt (tB te) σ H b := fun R r => h _ fun H' s => ⟨b, rfl, r H' s⟩
theorem gv_and (h : Gv ta σ H (.bl p)) (g : p = true → ∀ H', Same H H' → Gv tb σ H' (.bl q)) : Gv (tAndV ta tb) σ H (.bl (p && q)) := fun R r => h _ fun H' s => by
  refine ⟨p, rfl, ?_⟩
  cases p with
  | true => rw [if_pos rfl]; exact g rfl H' s _ fun H2 s2 => r H2 (s.trans s2)
  | false => rw [if_neg Bool.false_ne_true]; exact r H' s
theorem gv_or (h : Gv ta σ H (.bl p)) (g : p = false → ∀ H', Same H H' → Gv tb σ H' (.bl q)) : Gv (tOrV ta tb) σ H (.bl (p || q)) := fun R r => h _ fun H' s => by
  refine ⟨p, rfl, ?_⟩
  cases p with
  | true => rw [if_pos rfl]; exact r H' s
  | false => rw [if_neg Bool.false_ne_true]; exact g rfl H' s _ fun H2 s2 => r H2 (s.trans s2)
theorem gv_isN (h : Gv ta σ H v) : Gv (tIsN ta) σ H (.bl (decide (v = .non))) := fun R r => h _ fun H' s => r H' s
/-- two ints -/
theorem gv_ii {f : Int → Int → V} (h : Gv ta σ H (.int i)) (g : ∀ H', Same H H' → Gv tb σ H' (.int j)) : Gv (tOp (rI0 f) ta tb) σ H (f i j) := fun R r => h _ fun H' s => g H' s _ fun H2 s2 => ⟨i, j, rfl, rfl, r H2 (s.trans s2)⟩
theorem gv_iic {C : Int → Int → Prop} {f : Int → Int → V} (h : Gv ta σ H (.int i)) (g : ∀ H', Same H H' → Gv tb σ H' (.int j)) (hc : C i j) : Gv (tOp (rI C f) ta tb) σ H (f i j) := fun R r => h _ fun H' s => g H' s _ fun H2 s2 => ⟨i, j, rfl, rfl, hc, r H2 (s.trans s2)⟩
theorem gv_eqI (h : Gv ta σ H x) (g : ∀ H', Same H H' → Gv tb σ H' y) (hs : scal x y = true) : Gv (tOp rEq ta tb) σ H (.bl (decide (x = y))) := fun R r => h _ fun H' s => g H' s _ fun H2 s2 => ⟨hs, r H2 (s.trans s2)⟩
theorem gv_neI (h : Gv ta σ H x) (g : ∀ H', Same H H' → Gv tb σ H' y) (hs : scal x y = true) : Gv (tOp rNe ta tb) σ H (.bl (!decide (x = y))) := fun R r => h _ fun H' s => g H' s _ fun H2 s2 => ⟨hs, r H2 (s.trans s2)⟩
theorem gv_chain {f g : Int → Int → Bool} (h1 : Gv ta σ H (.int i)) (h2 : ∀ H', Same H H' → Gv tb σ H' (.int j)) (h3 : ∀ H', Same H H' → Gv tc σ H' (.int k)) : Gv (tChain (rI0 fun i j => .bl (f i j)) (rI0 fun i j => .bl (g i j)) ta tb tc) σ H (.bl (f i j && g j k)) :=
  fun R r => h1 _ fun H1 s1 => h2 H1 s1 _ fun H2 s2 => ⟨i, j, rfl, rfl, f i j, rfl, by
    cases e : f i j with
    | true => rw [if_pos rfl]; rw [e] at r; exact h3 H2 (s1.trans s2) _ fun H3 s3 => ⟨j, k, rfl, rfl, by rw [Bool.true_and] at r; exact r H3 ((s1.trans s2).trans s3)⟩
    | false => rw [if_neg Bool.false_ne_true]; rw [e, Bool.false_and] at r; exact r H2 (s1.trans s2)⟩
theorem ga_nil : Ga tNil σ H [] := fun R r => r H (Same.refl H)
theorem ga_cons {vs : List V} (h : Gv te σ H v) (g : ∀ H', Same H H' → Ga tt σ H' vs) : Ga (tCons te tt) σ H (v :: vs) := fun R r => h _ fun H' s => g H' s _ fun H2 s2 => r H2 (s.trans s2)
theorem ga_1 (h : Gv te σ H v) : Ga (tCons te tNil) σ H [v] := ga_cons h fun _ _ => ga_nil
/-- len -/
theorem gv_len {K : PySem.W.Frag} {n : Nat} (h : Ga tt σ H [v]) (hl : ∀ H', Same H H' → LenV K v H' n) : Gv (tCB (fun xs H Q => ∃ x n, xs = [x] ∧ LenV K x H n ∧ Q (.int n) H) tt) σ H (.int n) := fun R r => h _ fun H' s => ⟨v, n, rfl, hl H' s, r H' s⟩
theorem gv_lenS {K : PySem.W.Frag} {y : Str} (h : Ga tt σ H [.str y]) (hz : y.length ≤ sizeLine) : Gv (tCB (fun xs H Q => ∃ x n, xs = [x] ∧ LenV K x H n ∧ Q (.int n) H) tt) σ H (.int y.length) := gv_len h fun _ _ => ⟨hz, rfl⟩
theorem gv_lenL {K : PySem.W.Frag} {a : Addr} {xs : List V} (h : Ga tt σ H [.ref a]) (hq : SqL K H a xs) : Gv (tCB (fun xs H Q => ∃ x n, xs = [x] ∧ LenV K x H n ∧ Q (.int n) H) tt) σ H (.int xs.length) := gv_len h fun _ s => .inl ⟨xs, s.seq hq, rfl⟩
theorem atI_zero {α : Type} (x : α) (xs : List α) : atI (x :: xs) 0 = some x := by
  have := atI_nat (xs := x :: xs) (j := 0) (v := x) rfl
  simpa using this
/-- a call by its promise -/
theorem gv_call {sp : Sp} {E : XK} {vs : List V} (h : Ga tt σ H vs) (hc : ∀ H' (R : VK), Same H H' → (∀ H2, Same H' H2 → R v H2) → sp (vs ++ []) H' R E) : Gv (tCall sp [] E tt) σ H v := fun R r => h _ fun H' s => hc H' R s fun H2 s2 => r H2 (s.trans s2)
/-- an item -/
theorem gv_ixL {K : PySem.W.Frag} {a : Addr} {xs : List V} (h : Gv ta σ H (.ref a)) (g : ∀ H', Same H H' → Gv tb σ H' (.int i)) (hq : SqL K H a xs) (hi : atI xs i = some v) : Gv (tOp (rIxL K) ta tb) σ H v := fun R r => h _ fun H' s => g H' s _ fun H2 s2 => ⟨a, xs, i, v, rfl, rfl, (s.trans s2).seq hq, hi, r H2 (s.trans s2)⟩
theorem gv_ixS {z : Str} {c : Nat} (h : Gv ta σ H (.str z)) (g : ∀ H', Same H H' → Gv tb σ H' (.int i)) (hz : z.length ≤ sizeLine) (hi : atI z.cps.toList i = some c) : Gv (tOp rIxS ta tb) σ H (.str ⟨#[c]⟩) := fun R r => h _ fun H' s => g H' s _ fun H2 s2 => ⟨z, i, c, rfl, rfl, hz, hi, r H2 (s.trans s2)⟩
theorem gv_addS {x y : Str} (h : Gv ta σ H (.str x)) (g : ∀ H', Same H H' → Gv tb σ H' (.str y)) (hz : x.length + y.length ≤ sizeLine) : Gv (tOp (fun x y H Q => ∃ i j, x = .str i ∧ y = .str j ∧ i.length + j.length ≤ sizeLine ∧ Q (.str (i ++ j)) H) ta tb) σ H (.str (x ++ y)) := fun R r => h _ fun H' s => g H' s _ fun H2 s2 => ⟨x, y, rfl, rfl, hz, r H2 (s.trans s2)⟩
/-- a if t else b -/
theorem gv_if (h : Gt t σ H p) (g1 : p = true → ∀ H', Same H H' → Gv ta σ H' v) (g2 : p = false → ∀ H', Same H H' → Gv tb σ H' v) : Gv (tIf t ta tb) σ H v := fun R r => h _ fun H' s => by
  cases p with
  | true => rw [if_pos rfl]; exact g1 rfl H' s _ fun H2 s2 => r H2 (s.trans s2)
  | false => rw [if_neg Bool.false_ne_true]; exact g2 rfl H' s _ fun H2 s2 => r H2 (s.trans s2)

variable {D : Ends} {ts us : TS} {n : Nat}
theorem rs_seq (h : ts { D with nx := us D } σ H) : tSeq ts us D σ H := h
theorem rs_if2 (h : Gt t σ H b) (k1 : b = true → ∀ H', Same H H' → ts D σ H') (k2 : b = false → ∀ H', Same H H' → us D σ H') : tIfS t ts us D σ H := h _ fun H' s => by
  cases b with
  | true => rw [if_pos rfl]; exact k1 rfl H' s
  | false => rw [if_neg Bool.false_ne_true]; exact k2 rfl H' s
theorem rs_set (h : Gv te σ H v) (k : ∀ H', Same H H' → D.nx (σ.set n (some v)) H') : tAsg te (gName n) D σ H := h _ k
theorem rs_ret (h : Gv te σ H v) (k : ∀ H', Same H H' → D.rt v H') : tRet te D σ H := h _ k
theorem rs_next (h : D.nx σ H) : tNext D σ H := h

variable {ix : List (Option Nat)} {g : TG} {tf : TT} {R : VK}
theorem tcompR {jj : Int} (h : Ga tt σ H [.int jj]) (h1 : -(2 ^ 62) ≤ jj) (h2 : jj < 2 ^ 62) (k : ∀ H', Same H H' → CompW (Itr 0 jj.toNat) ix g tf te σ H' fun D' H2 => R (.ref D') H2) : tComp (iRng1 tt) ix g tf te σ H R := h _ fun H' s => ⟨jj, rfl, h1, h2, k H' s⟩
theorem tcompL {K : PySem.W.Frag} {a : Addr} {xs : List V} (h : Gv ta σ H (.ref a)) (hq : SqL K H a xs) (k : ∀ H', Same H H' → SqL K H' a xs → CompW (Itl K a) ix g tf te σ H' fun D' H2 => R (.ref D') H2) : tComp (iList K ta) ix g tf te σ H R := h _ fun H' s => ⟨a, rfl, ⟨xs, s.seq hq⟩, k H' s (s.seq hq)⟩
theorem tcompZ {K : PySem.W.Frag} {a b : Addr} {xs ys : List V} (h : Ga tt σ H [.ref a, .ref b]) (ha : SqL K H a xs) (hb : SqL K H b ys) (k : ∀ H', Same H H' → SqL K H' a xs → SqL K H' b ys → CompW (Itz K a b) ix g tf te σ H' fun D' H2 => R (.ref D') H2) : tComp (iZip K tt) ix g tf te σ H R :=
  h _ fun H' s => ⟨a, b, rfl, ⟨xs, s.seq ha⟩, ⟨ys, s.seq hb⟩, k H' s (s.seq ha) (s.seq hb)⟩
theorem rs_ret' (h : te σ H D.rt) : tRet te D σ H := h
theorem rs_scL {K : PySem.W.Frag} {a : Addr} {xs : List V} (h : Gv ta σ H (.ref a)) (hq : SqL K H a xs) (k : ∀ H', Same H H' → SqL K H' a xs → CompW (Itl K a) ix g tf te σ H' fun D' H2 => D.nx (σ.set n (some (.ref D'))) H2) : tSetComp n (iList K ta) ix g tf te D σ H := h _ fun H' s => ⟨a, rfl, ⟨xs, s.seq hq⟩, k H' s (s.seq hq)⟩
/-- a call whose promise is shown for the wish at hand -/
theorem tcall {sp : Sp} {E : XK} {vs : List V} (h : Ga tt σ H vs) (k : ∀ H', Same H H' → sp (vs ++ []) H' R E) : tCall sp [] E tt σ H R := h _ fun H' s => k H' s
theorem rs_set' (h : te σ H fun x H1 => D.nx (σ.set n (some x)) H1) : tAsg te (gName n) D σ H := h
theorem rq_if (h : Gt t σ H b) (k1 : b = true → ∀ H', Same H H' → ts { D with nx := us D } σ H') (k2 : b = false → ∀ H', Same H H' → us D σ H') : tSeq (tIfS t ts tNext) us D σ H := rs_if2 h k1 k2
theorem rq_set (h : Gv te σ H v) (k : ∀ H', Same H H' → us D (σ.set n (some v)) H') : tSeq (tAsg te (gName n)) us D σ H := h _ k
theorem rq_set' (h : te σ H fun x H1 => us D (σ.set n (some x)) H1) : tSeq (tAsg te (gName n)) us D σ H := h
theorem rq_drop' (h : te σ H fun _ H1 => us D σ H1) : tSeq (tDrop te) us D σ H := h
end
end L2


namespace L2
open PySem PySem.Spec PyProof.Rows
section
variable {X : Cx} (K : PySem.W.Frag)
theorem kLen (h : X.K = K := by rfl) : CallR X (.builtin "len") (fun xs H Q => ∃ x n, xs = [x] ∧ LenV K x H n ∧ Q (.int n) H) := h ▸ call_len
theorem kAll (h : X.K = K := by rfl) (hc : X.calm = true := by rfl) : CallR X (.builtin "all") (fun xs H Q => ∃ (a : Addr) (bs : List Bool), xs = [.ref a] ∧ SqL K H a (bs.map V.bl) ∧ Q (.bl (bs.all fun b => b)) H) := by
  subst h
  intro pins s σ H xs us Q I r q
  exact call_all pins s σ H xs us Q I r ⟨hc, q⟩
theorem kList (h : X.K = K := by rfl) : CallR X (.type "list") (fun xs H Q => ∃ p ys, xs = [.ref p] ∧ (SqL K H p ys ∨ SqT K H p ys) ∧ ∀ l, H l = none → Q (.ref l) (upd H l (.lst ys))) := h ▸ call_list_of
theorem kIsinstance (h : X.K = K := by rfl) : CallR X (.builtin "isinstance") (fun xs H Q => ∃ x c t b, xs = [x, c] ∧ ((∃ a, c = .ref a) ∨ ∃ n, c = .ty n) ∧ TyV K H x t ∧ PySem.W.kitOne K t (clsV c) = some b ∧ Q (.bl b) H) := h ▸ call_isinstance
theorem kIxL (h : X.K = K := by rfl) : IxR X (rIxL K) := h ▸ ix_list
theorem kIxT (h : X.K = K := by rfl) : IxR X (rIxT K) := h ▸ ix_tup
theorem kSlL (h : X.K = K := by rfl) : SlR X (rSlL K) := h ▸ sl_list
theorem kSlT (h : X.K = K := by rfl) : SlR X (rSlT K) := h ▸ sl_tup
theorem kJoin (h : X.K = K := by rfl) : MtR X "str.join" (rJoin K) := h ▸ mt_join
theorem kCount (h : X.K = K := by rfl) : MtR X "list.count" (rCount K) := h ▸ mt_count
theorem kIndex (h : X.K = K := by rfl) : MtR X "list.index" (rIndex K) := h ▸ mt_index
variable {tg l : Expr} {tl ta te to : TE} {t : TA}
theorem kiList (hl : PE X l tl) (h : X.K = K := by rfl) : PI X tg l (iList K tl) := h ▸ pi_list hl
theorem kiTup (hl : PE X l tl) (h : X.K = K := by rfl) : PI X tg l (iTup K tl) := h ▸ pi_tup hl
theorem kiZip {elts : List Expr} {k : Nat} {tpos : Pos} {a b : Expr} {p pos : Pos} (hm : X.mg "zip" = none) (ha : PA X [a, b] t) (h : X.K = K := by rfl) (hg : Gl X "zip" := by rfl) (hs : starEach [a, b] X.env = [(false, eval a X.env), (false, eval b X.env)] := by rfl) (hs2 : starEach [b] X.env = [(false, eval b X.env)] := by rfl) :
    PI X (.Tuple elts k tpos) (.Call (.Name "zip" p) [a, b] [] pos) (iZip K t) := h ▸ pi_zip hg hm ha hs hs2
theorem kTruth {a : Expr} (ha : PE X a ta) (he : ∀ whole, isTrue a X.env whole = (do let v ← whole; standAt a.pos; holding [v] (truthy v))) (h : X.K = K := by rfl) :
    PT X a (fun σ H Q => ta σ H fun x H' => ∃ k, TruV K x H' k ∧ Q k H') := h ▸ pt_truth ha he
theorem kgTup {es : List Expr} {k : Nat} {t : TGs} {n : Nat} {pos : Pos} (h1 : PGs X es t) (h : X.K = K := by rfl) (hc : X.calm = true := by rfl)
    (hn : (assignEach es X.env).length = n := by rfl) (hst : (assignEach es X.env).findIdx? (·.1) = none := by rfl) : PG X (.Tuple es k pos) (gTup K n t) := h ▸ pg_tup hc h1 hn hst
theorem kRev {e : Expr} {j : Nat} {pos p2 p3 p4 : Pos} (he : PE X e te) (h : X.K = K := by rfl) : PE X (.Subscript e (.Slice none none (some (.UnaryOp .USub (.Constant (.int 1) j p4) p3)) p2) pos) (tRev K te) := h ▸ pe_rev he
theorem kBm {o e : Expr} {es : List Expr} {name : Str} {apos cpos : Pos} {T id : String} {r : V → List V → Hp → VK → Prop} (pa : PlainAttrs T) (slot : Slot T name id) (hty : typeOf (.builtin id) = pure (.type "method_descriptor")) (hm : MtR X id r) (ho : PE X o to) (ha : PA X (e :: es) t) (h : X.K = K := by rfl)
    (hbase : attributeBase o name X.env (eval o X.env) = eval o X.env := by rfl)
    (hfew : ((backTo cpos (starEach (e :: es) X.env)).all (fun x => !x.1) && (backToKw cpos (keywordEach [] X.env)).all (fun x => x.1.isSome)
      && decide ((e :: es).length + ([] : List Keyword).length + (if ([] : List Keyword).isEmpty then 0 else 1) < 30)) = true := by rfl)
    (hline : (apos.endLine == cpos.line) = true := by rfl) (hs : starEach (e :: es) X.env = (false, eval e X.env) :: starEach es X.env := by rfl) (hplain : (backTo cpos (starEach es X.env)).any (·.1) = false := by rfl) :
    PE X (.Call (.Attribute o name apos) (e :: es) [] cpos) (tBM K T r to t) := h ▸ pe_bm pa slot hty hm ho ha hbase hfew hline hs hplain
end
end L2


namespace L2
open PySem PySem.Spec PyProof.Rows
def Gn (t : TE) (σ : St) (H : Hp) (xs : List V) : Prop := ∀ R : VK, (∀ p H', H p = none → Same H H' → H' p = some (.lst xs) → R (.ref p) H') → t σ H R
section
variable {σ : St} {H : Hp} {ta tb te : TE} {tt : TA} {xs ys : List V} {K : PySem.W.Frag} {a : Addr} {lo hi : Option Int}
theorem gn_to {R : VK} (h : Gn te σ H xs) (r : ∀ p H', H p = none → Same H H' → H' p = some (.lst xs) → R (.ref p) H') : te σ H R := h R r
theorem tcb1 {r : List V → Hp → VK → Prop} {R : VK} (h : te σ H fun x H1 => r [x] H1 R) : tCB r (tCons te tNil) σ H R := h
theorem gn_eq (h : Gn te σ H xs) (e : xs = ys) : Gn te σ H ys := e ▸ h
theorem gn_lst (h : Ga tt σ H xs) (hz : xs.length ≤ sizeLine) : Gn (tLst tt) σ H xs := fun R r => h _ fun H' s => ⟨hz, fun p hp => r p _ (s.free hp) (s.trans (Same.new hp _)) upd_same⟩
theorem gn_cat (ha : Gv ta σ H (.ref a)) (hl : H a = some (.lst xs)) (hb : ∀ H', Same H H' → Gn tb σ H' ys) (hz : xs.length + ys.length ≤ sizeLine) : Gn (tOp rCat ta tb) σ H (xs ++ ys) :=
  fun R r => ha _ fun H1 s1 => hb H1 s1 _ fun p H2 hp s2 hpl => ⟨a, p, xs, ys, rfl, rfl, s2 _ _ (s1 _ _ hl), hpl, hz, fun q hq => r q _ ((s1.trans s2).free hq) ((s1.trans s2).trans (Same.new hq _)) upd_same⟩
theorem gn_catN (ha : Gn ta σ H xs) (hb : ∀ H', Same H H' → Gn tb σ H' ys) (hz : xs.length + ys.length ≤ sizeLine) : Gn (tOp rCat ta tb) σ H (xs ++ ys) :=
  fun R r => ha _ fun a H1 ha s1 hl => hb H1 s1 _ fun p H2 hp s2 hpl => ⟨a, p, xs, ys, rfl, rfl, s2 _ _ hl, hpl, hz, fun q hq => r q _ ((s1.trans s2).free hq) ((s1.trans s2).trans (Same.new hq _)) upd_same⟩
/-- a slice of a list -/
theorem gn_slLo {i : Int} (ha : Gv ta σ H (.ref a)) (hq : SqL K H a xs) (hb : ∀ H', Same H H' → Gv tb σ H' (.int i)) : Gn (tSl (rSlL K) ta (tPart tb) tNoPart) σ H (cutV xs (some i) none) :=
  fun R r => ha _ fun H1 s1 => hb H1 s1 _ fun H2 s2 => ⟨i, rfl, a, xs, rfl, (s1.trans s2).seq hq, fun q hq' => r q _ ((s1.trans s2).free hq') ((s1.trans s2).trans (Same.new hq' _)) upd_same⟩
theorem gn_slHi {i : Int} (ha : Gv ta σ H (.ref a)) (hq : SqL K H a xs) (hb : ∀ H', Same H H' → Gv tb σ H' (.int i)) : Gn (tSl (rSlL K) ta tNoPart (tPart tb)) σ H (cutV xs none (some i)) :=
  fun R r => ha _ fun H1 s1 => hb H1 s1 _ fun H2 s2 => ⟨i, rfl, a, xs, rfl, (s1.trans s2).seq hq, fun q hq' => r q _ ((s1.trans s2).free hq') ((s1.trans s2).trans (Same.new hq' _)) upd_same⟩
theorem gv_neg {i : Int} (ha : Gv ta σ H (.int i)) : Gv (tUn (rU fun i => .int (-i)) ta) σ H (.int (-i)) := fun R r => ha _ fun H1 s1 => ⟨i, rfl, r H1 s1⟩
/-- an item of a new list -/
theorem gv_ixN {i : Int} {v : V} (ha : Gn ta σ H xs) (hb : ∀ H', Same H H' → Gv tb σ H' (.int i)) (hi : atI xs i = some v) : Gv (tOp (rIxL K) ta tb) σ H v :=
  fun R r => ha _ fun a H1 ha s1 hl => hb H1 s1 _ fun H2 s2 => ⟨a, xs, i, v, rfl, rfl, SqL.of (s2 _ _ hl), hi, r H2 (s1.trans s2)⟩
/-- isinstance of a caught exception -/
theorem gv_isiE {C : Addr} {c : V} {b : Bool} (h : Ga tt σ H [.ref a, c]) (hc : (∃ x, c = .ref x) ∨ ∃ n, c = .ty n) (e : H a = some (excO a (.ref C))) (F : ExcIs K C) (hk : PySem.W.kitOne K (.ref C) (clsV c) = some b) :
    Gv (tCB (fun xs H Q => ∃ x c t b, xs = [x, c] ∧ ((∃ a, c = .ref a) ∨ ∃ n, c = .ty n) ∧ TyV K H x t ∧ PySem.W.kitOne K t (clsV c) = some b ∧ Q (.bl b) H) tt) σ H (.bl b) := fun R r => h _ fun H' s => ⟨_, c, _, b, rfl, hc, .exc (s _ _ e) F, hk, r H' s⟩
/-- list.count of bools, list.index -/
theorem gv_count {v : V} (ha : Gv ta σ H (.ref a)) (hq : SqL K H a xs) (hb : ∀ H', Same H H' → Ga tt σ H' [v]) (hf : xs.all flatV = true) (hv : flatV v = true) : Gv (tBM K "list" (rCount K) ta tt) σ H (.int (xs.countP fun y => eqV y v : Nat)) :=
  fun R r => ha _ fun H1 s1 => ⟨.inl ⟨rfl, _, s1.seq hq⟩, hb H1 s1 _ fun H2 s2 => ⟨a, xs, v, rfl, rfl, (s1.trans s2).seq hq, hf, hv, r H2 (s1.trans s2)⟩⟩
theorem gv_index {v : V} {j : Nat} (ha : Gv ta σ H (.ref a)) (hq : SqL K H a xs) (hb : ∀ H', Same H H' → Ga tt σ H' [v]) (hf : xs.all flatV = true) (hv : flatV v = true) (hj : j < xs.length) (he : eqV xs[j] v = true) (hn : ∀ (m : Nat) (hm : m < xs.length), m < j → eqV xs[m] v = false) :
    Gv (tBM K "list" (rIndex K) ta tt) σ H (.int (j : Nat)) := fun R r => ha _ fun H1 s1 => ⟨.inl ⟨rfl, _, s1.seq hq⟩, hb H1 s1 _ fun H2 s2 => ⟨a, xs, v, rfl, rfl, (s1.trans s2).seq hq, hf, hv, j, hj, he, hn, r H2 (s1.trans s2)⟩⟩
theorem gv_strip {z cs : Str} (ha : Gv ta σ H (.str z)) (hz : z.length ≤ sizeLine) (hb : ∀ H', Same H H' → Ga tt σ H' [.str cs]) : Gv (tBM K "str" rStrip ta tt) σ H (.str (Txt.stripChars z cs)) :=
  fun R r => ha _ fun H1 s1 => ⟨rfl, hb H1 s1 _ fun H2 s2 => ⟨z, cs, rfl, rfl, hz, r H2 (s1.trans s2)⟩⟩
end
end L2


namespace L2
open PySem PySem.Spec PyProof.Rows
theorem items_areI {prog : Program} {w : World} : ∀ {ks : List Int} {us : List Value}, Vals (ks.map V.int) us → ItemsAre (intKind prog w) ks us
  | [], _, .nil => .nil
  | k :: ks, u :: us, .cons r t => .cons (by
      obtain ⟨tk, rfl⟩ := (show ∃ tk, u = Value.int k tk from r)
      exact intKind_is _ _ _ _) (items_areI t)
theorem byVal_int {prog : Program} {w : World} : TB.ByVal (intKind prog w) := fun n k v h => by
  obtain ⟨t, rfl⟩ := TB.is_int h
  cases n <;> rfl
section
variable {X : Cx} {pins : List (Addr × Obj)} {σ : St} {H : Hp} {s : Shared}
theorem Inv.key (I : Inv X pins σ H s) {a : Addr} {ks : List Int} (h : SqT X.K H a (ks.map V.int)) : IsTupleKey (intKind X.prog X.w) s.heap ks a := by
  obtain ⟨its, r, ⟨o, ho, hc, n, hd⟩, _⟩ := I.tuple h
  exact ⟨o, its.toArray, n, ho, hc, hd, items_areI r⟩
/-- a set of tuples -/
def setO (prog : Program) (w : World) (p : Addr) (ps : List (Addr × List Int)) : HO := .ext fun h => TB.SetAt (intKind prog w) h p ps
abbrev rv (p : Addr × List Int) : V := .ref p.1
theorem vals_refs : ∀ {ps : List (Addr × List Int)} {us : List Value}, Vals (ps.map rv) us → us = ps.map fun p => Value.ref p.1
  | [], _, .nil => rfl
  | p :: ps, u :: us, .cons r t => by
    have e : u = .ref p.1 := r
    rw [e, vals_refs t]
    rfl
theorem refs_vals : ∀ ps : List (Addr × List Int), Vals (ps.map rv) (ps.map TB.rf)
  | [] => .nil
  | p :: ps => .cons (show RelV (.ref p.1) (.ref p.1) from rfl) (refs_vals ps)
def rSet (X : Cx) (K : PySem.W.Frag) (prog : Program) (w : World) : List V → Hp → VK → Prop := fun xs H Q => ∃ (l : Addr) (ps : List (Addr × List Int)), xs = [.ref l] ∧ SqL K H l (ps.map rv) ∧ (∀ p ∈ ps, SqT K H p.1 (p.2.map V.int)) ∧ TB.Few ps 75 ∧
  ∀ (S : Addr) (qs : List (Addr × List Int)), H S = none → (∀ p ∈ qs, p ∈ ps) → (∀ p ∈ ps, ∃ q ∈ qs, q.2 = p.2) → (qs.map (·.2)).Nodup → Q (.ref S) (upd H S (setO prog w S qs))
theorem call_setT (hc : X.calm = true) (hu : X.A.units + 64 < cLine) : CallR X (.type "set") (rSet X X.K X.prog X.w) := by
  intro pins s σ H xs us Q I r h
  obtain ⟨l, ps, rfl, hq, ht, few, q⟩ := h
  obtain ⟨u, rfl, ru⟩ := vals1 r
  cases ru
  obtain ⟨its, r', pl, hz⟩ := I.list hq
  rw [vals_refs r'] at pl
  refine TB.call_set (knd := intKind X.prog X.w) (xs := ps) (I.ok.hd hc) pl.isList (fun p hp => I.key (ht p hp)) byVal_int (by omega) few fun h' tk qs hS m1 m2 kp => ?_
  have nd : (qs.map (·.2)).Nodup := let ⟨_, _, _, _, _, _, _, _, _, nd⟩ := hS; nd
  have there : ∃ o, h'.get? s.heap.objs.size = some o := let ⟨o, _, _, ho, _⟩ := hS; ⟨o, ho⟩
  exact ⟨.ref s.heap.objs.size, _, I.laid (t' := tk) kp (Nat.le_refl _) (show ObjOk X.prog X.w _ h' _ (setO X.prog X.w s.heap.objs.size qs) from ⟨hS, there, fun h1 h2 x k => x.at_ k⟩), rfl, q _ qs (I.hok.fresh (Nat.le_refl _)) m1 m2 nd⟩
def rSorted (K : PySem.W.Frag) (prog : Program) (w : World) : List V → Hp → VK → Prop := fun xs H Q => ∃ (S : Addr) (ps : List (Addr × List Int)), xs = [.ref S] ∧ H S = some (setO prog w S ps) ∧ (∀ p ∈ ps, SqT K H p.1 (p.2.map V.int)) ∧ (∀ p ∈ ps, p.2 ≠ []) ∧ ps.length < 64 ∧
  ∀ (l : Addr) (qs : List (Addr × List Int)), H l = none → qs.Perm ps → qs.Pairwise (fun p q => HT.lexLt p.2 q.2 = true) → Q (.ref l) (upd H l (.lst (qs.map rv)))
theorem call_sortedS (hc : X.calm = true) : CallR X (.builtin "sorted") (rSorted X.K X.prog X.w) := by
  intro pins s σ H xs us Q I r h
  obtain ⟨S, ps, rfl, hS, ht, hne, h64, q⟩ := h
  obtain ⟨u, rfl, ru⟩ := vals1 r
  cases ru
  obtain ⟨hS', _⟩ := (show ObjOk X.prog X.w H s.heap S (setO X.prog X.w S ps) from I.hok S _ hS)
  refine TB.call_sorted_set (ps := ps) (I.ok.hd hc) hS' (fun p hp => I.key (ht p hp)) hne h64 fun h' tk l qs c kp hle hl pm pw => ?_
  have hz : (qs.map rv).length ≤ sizeLine := by
    rw [List.length_map, pm.length_eq, sizeLine_eq]
    omega
  exact ⟨.ref l, _, I.laid (t' := tk) kp hle (show ObjOk X.prog X.w _ h' _ (.lst (qs.map rv)) from ⟨hz, qs.map TB.rf, c, refs_vals qs, hl⟩), rfl, q _ qs (I.hok.fresh hle) pm pw⟩
end
end L2


namespace L2
open PySem PySem.Spec PyProof.Rows
mutual
def Dt.py : Dt → PyData
  | .non => .none
  | .bl b => .bool b
  | .int i => .int i
  | .str x => .str x
  | .lst ds => .list (Dt.pys ds)
  | .tup ds => .tuple (Dt.pys ds)
def Dt.pys : List Dt → List PyData
  | [] => []
  | d :: ds => Dt.py d :: Dt.pys ds
end
section
variable {X : Cx} {pins : List (Addr × Obj)} {σ : St} {H : Hp} {s : Shared}
mutual
theorem reads_of (I : Inv X pins σ H s) : ∀ (d : Dt) {x : V} {u : Value}, Rep X.K H d x → RelV x u → ∃ as, Reads s.heap u d.py as
  | .non, x, u, h, r => by unfold Rep at h; subst h; cases r; exact ⟨_, .none⟩
  | .bl b, x, u, h, r => by unfold Rep at h; subst h; cases r; exact ⟨_, .bool b⟩
  | .int i, x, u, h, r => by unfold Rep at h; subst h; obtain ⟨t, rfl⟩ := r; exact ⟨_, .int i t⟩
  | .str z, x, u, h, r => by unfold Rep at h; subst h; obtain ⟨t, rfl⟩ := r; exact ⟨_, .str z t⟩
  | .lst ds, x, u, h, r => by
    unfold Rep at h
    obtain ⟨a, xs, rfl, q, rr⟩ := h
    cases r
    obtain ⟨its, r1, p1, _⟩ := I.list q
    obtain ⟨o, ho, hc, n, hd⟩ := p1.isList
    obtain ⟨as, ra⟩ := readss_of I ds rr r1
    exact ⟨_, .list ho hc hd (by simpa using ra)⟩
  | .tup ds, x, u, h, r => by
    unfold Rep at h
    obtain ⟨a, xs, rfl, q, rr⟩ := h
    cases r
    obtain ⟨its, r1, ⟨o, ho, hc, n, hd⟩, _⟩ := I.tuple q
    obtain ⟨as, ra⟩ := readss_of I ds rr r1
    exact ⟨_, .tuple ho hc hd (by simpa using ra)⟩
theorem readss_of (I : Inv X pins σ H s) : ∀ (ds : List Dt) {xs : List V} {us : List Value}, Reps X.K H ds xs → Vals xs us → ∃ as, ReadsAll s.heap us (Dt.pys ds) as
  | [], xs, us, h, r => by unfold Reps at h; subst h; cases r; exact ⟨_, .nil⟩
  | d :: ds, xs, us, h, r => by
    unfold Reps at h
    obtain ⟨x, xr, rfl, q, t⟩ := h
    cases r with
    | cons rx rxs =>
      obtain ⟨as, ra⟩ := reads_of I d q rx
      obtain ⟨bs, rb⟩ := readss_of I ds t rxs
      exact ⟨_, .cons ra rb⟩
end
/-- the two may be compared -/
def Fair (d e : Dt) : Prop := d.py.canLay0 = true ∧ e.py.canLay0 = true ∧ min d.py.depth e.py.depth ≤ 60
def rEqG (K : PySem.W.Frag) (neg : Bool) : R2 := fun x y H Q => ∃ d e : Dt, Fair d e ∧ Rep K H d x ∧ Rep K H e y ∧ Q (.bl (neg ^^ PyData.eqv d.py e.py)) H
theorem op_eqG (hu : X.A.units + 64 < cLine) : OpR X (compareOp .Eq) (rEqG X.K false) := by
  intro pins s σ H x y u v Q I rx ry h
  obtain ⟨d, e, ⟨f1, f2, f3⟩, hx, hy, q⟩ := h
  obtain ⟨as, ra⟩ := reads_of I d hx rx
  obtain ⟨bs, rb⟩ := reads_of I e hy ry
  rw [Bool.false_xor] at q
  exact SeqAt.rcAt_reads ra rb f1 f2 (by omega) X.prog X.w X.xe _ ⟨.bl _, H, I, rfl, q⟩
theorem op_neG (hu : X.A.units + 64 < cLine) : OpR X (compareOp .NotEq) (rEqG X.K true) := by
  intro pins s σ H x y u v Q I rx ry h
  obtain ⟨d, e, ⟨f1, f2, f3⟩, hx, hy, q⟩ := h
  obtain ⟨as, ra⟩ := reads_of I d hx rx
  obtain ⟨bs, rb⟩ := reads_of I e hy ry
  rw [Bool.true_xor] at q
  exact SeqAt.rcNeAt_reads ra rb f1 f2 (by omega) X.prog X.w X.xe _ ⟨.bl _, H, I, rfl, q⟩
theorem pys_ints : ∀ ns : List Int, Dt.pys (ns.map Dt.int) = ns.map PyData.int
  | [] => rfl
  | n :: ns => by rw [List.map_cons, List.map_cons, ← pys_ints ns]; rfl
theorem eqv_ints : ∀ ns ms : List Int, PyData.eqvAll (ns.map .int) (ms.map .int) = decide (ns = ms)
  | [], [] => rfl
  | [], _ :: _ => rfl
  | _ :: _, [] => rfl
  | n :: ns, m :: ms => by
    rw [List.map_cons, List.map_cons]
    show (n == m && PyData.eqvAll (ns.map .int) (ms.map .int)) = _
    rw [eqv_ints ns ms]
    by_cases h1 : n = m <;> by_cases h2 : ns = ms <;> simp [h1, h2]
theorem lay_ints : ∀ ns : List Int, PyData.canLayAll0 (ns.map .int) = true
  | [] => rfl
  | n :: ns => lay_ints ns
theorem depth_ints : ∀ ns : List Int, PyData.depthAll (ns.map .int) = 0
  | [] => rfl
  | n :: ns => by
    show max 0 (PyData.depthAll (ns.map .int)) = 0
    rw [depth_ints ns]; rfl
theorem reps_ints {K : PySem.W.Frag} : ∀ ns : List Int, Reps K H (ns.map Dt.int) (ns.map V.int)
  | [] => by unfold Reps; rfl
  | n :: ns => by
    rw [List.map_cons, List.map_cons]
    unfold Reps
    exact ⟨_, _, rfl, by unfold Rep; rfl, reps_ints ns⟩
/-- t in xs, tuples of ints -/
def rInT (K : PySem.W.Frag) (neg : Bool) : R2 := fun x y H Q => ∃ (a l : Addr) (ks : List Int) (ps : List (Addr × List Int)), x = .ref a ∧ y = .ref l ∧ SqT K H a (ks.map V.int) ∧ SqL K H l (ps.map rv) ∧ (∀ p ∈ ps, SqT K H p.1 (p.2.map V.int)) ∧ Q (.bl (neg ^^ decide (∃ p ∈ ps, p.2 = ks))) H
theorem ints_inj : ∀ {a b : List Int}, a.map V.int = b.map V.int → a = b
  | [], [], _ => rfl
  | x :: xs, y :: ys, h => by
    rw [List.map_cons, List.map_cons] at h
    injection h with h1 h2
    injection h1 with h1
    rw [h1, ints_inj h2]
theorem op_inT (hu : X.A.units + 64 < cLine) : OpR X (compareOp .In) (rInT X.K false) := by
  intro pins s σ H x y u v Q I rx ry h
  obtain ⟨a, l, ks, ps, rfl, rfl, ha, hl, ht, q⟩ := h
  cases rx; cases ry
  obtain ⟨its, r1, p1, _⟩ := I.list hl
  have e := vals_refs r1
  subst e
  have hk := I.key ha
  -- what an entry holds, by its address
  classical
  let ev : Value → Bool := fun z => decide (∃ p ∈ ps, z = .ref p.1 ∧ p.2 = ks)
  refine SeqAt.in_listAt ev p1.isList (fun z hz => ?_) ?_
  · obtain ⟨p, hp, rfl⟩ : ∃ p ∈ ps, z = Value.ref p.1 := by simpa [eq_comm] using hz
    have he : ev (.ref p.1) = decide (p.2 = ks) := by
      show decide _ = decide _
      refine decide_eq_decide.mpr ⟨fun ⟨p', hp', e1, e2⟩ => ?_, fun e => ⟨p, hp, rfl, e⟩⟩
      injection e1 with e1
      have h1 := ht p hp
      have h2 := ht p' hp'
      rw [← e1] at h2
      rw [ints_inj (I.tuple_inj h1 h2)]
      exact e2
    rw [he]
    obtain ⟨as, ra⟩ := reads_of I (.tup (p.2.map Dt.int)) (x := .ref p.1) (u := .ref p.1) (by unfold Rep; exact ⟨_, _, rfl, ht p hp, reps_ints _⟩) rfl
    obtain ⟨bs, rb⟩ := reads_of I (.tup (ks.map Dt.int)) (x := .ref a) (u := .ref a) (by unfold Rep; exact ⟨_, _, rfl, ha, reps_ints _⟩) rfl
    have c1 : ∀ ns : List Int, (Dt.tup (ns.map Dt.int)).py.canLay0 = true := fun ns => by show PyData.canLayAll0 (Dt.pys _) = true; rw [pys_ints]; exact lay_ints ns
    have c2 : ∀ ns : List Int, (Dt.tup (ns.map Dt.int)).py.depth = 1 := fun ns => by show PyData.depthAll (Dt.pys _) + 1 = 1; rw [pys_ints, depth_ints]
    have := SeqAt.eqAt_reads _ _ X.A.in1 s _ _ _ _ ra rb (c1 _) (c1 _) (by rw [c2, c2]; show X.A.units + 1 + _ < cLine; simp; omega)
    have e : PyData.eqv (Dt.tup (p.2.map Dt.int)).py (Dt.tup (ks.map Dt.int)).py = decide (p.2 = ks) := by
      show PyData.eqvAll (Dt.pys _) (Dt.pys _) = _
      rw [pys_ints, pys_ints, eqv_ints]
    rw [e] at this
    exact this
  · have : (ps.map fun p => Value.ref p.1).toArray.any ev = decide (∃ p ∈ ps, p.2 = ks) := by
      rw [Bool.eq_iff_iff, decide_eq_true_iff]
      simp only [List.any_toArray, List.any_map, List.any_eq_true, Function.comp]
      constructor
      · rintro ⟨p, hp, e⟩
        obtain ⟨p', hp', _, e2⟩ := of_decide_eq_true e
        exact ⟨p', hp', e2⟩
      · rintro ⟨p, hp, e⟩
        exact ⟨p, hp, decide_eq_true ⟨p, hp, rfl, e⟩⟩
    rw [this]
    rw [Bool.false_xor] at q
    exact ⟨.bl _, H, I, rfl, q⟩
end
end L2


namespace L2
open PySem PySem.Spec PyProof.Rows
section
variable {X : Cx} (K : PySem.W.Frag)
theorem kTuple (h : X.K = K := by rfl) : CallR X (.type "tuple") (fun xs H Q => ∃ p ys, xs = [.ref p] ∧ ((SqL K H p ys ∧ ∀ l, H l = none → Q (.ref l) (upd H l (.tup ys))) ∨ (SqT K H p ys ∧ Q (.ref p) H))) := h ▸ call_tuple_of
def rSetK (K : PySem.W.Frag) (prog : Program) (w : World) : List V → Hp → VK → Prop := fun xs H Q => ∃ (l : Addr) (ps : List (Addr × List Int)), xs = [.ref l] ∧ SqL K H l (ps.map rv) ∧ (∀ p ∈ ps, SqT K H p.1 (p.2.map V.int)) ∧ TB.Few ps 75 ∧
  ∀ (S : Addr) (qs : List (Addr × List Int)), H S = none → (∀ p ∈ qs, p ∈ ps) → (∀ p ∈ ps, ∃ q ∈ qs, q.2 = p.2) → (qs.map (·.2)).Nodup → Q (.ref S) (upd H S (setO prog w S qs))
theorem kSet (P : Program) (w : World) (hu : X.A.units + 64 < cLine) (h : X.K = K := by rfl) (hP : X.prog = P := by rfl) (hw : X.w = w := by rfl) (hc : X.calm = true := by rfl) : CallR X (.type "set") (rSetK K P w) := by
  subst h; subst hP; subst hw
  exact call_setT hc hu
theorem kSorted (P : Program) (w : World) (h : X.K = K := by rfl) (hP : X.prog = P := by rfl) (hw : X.w = w := by rfl) (hc : X.calm = true := by rfl) : CallR X (.builtin "sorted") (rSorted K P w) := by
  subst h; subst hP; subst hw
  exact call_sortedS hc
theorem kEqG (hu : X.A.units + 64 < cLine) (h : X.K = K := by rfl) : OpR X (compareOp .Eq) (rEqG K false) := h ▸ op_eqG hu
theorem kNeG (hu : X.A.units + 64 < cLine) (h : X.K = K := by rfl) : OpR X (compareOp .NotEq) (rEqG K true) := h ▸ op_neG hu
theorem kInT (hu : X.A.units + 64 < cLine) (h : X.K = K := by rfl) : OpR X (compareOp .In) (rInT K false) := h ▸ op_inT hu
end

def Hm (D : Addr) (H : Hp) : Hp := fun b => if b = D then none else H b
theorem hm_ne {D b : Addr} {H : Hp} (h : b ≠ D) : Hm D H b = H b := by unfold Hm; rw [if_neg h]
theorem hm_at (D : Addr) (H : Hp) : Hm D H D = none := by unfold Hm; rw [if_pos rfl]
theorem Same.hm {D : Addr} {H H' : Hp} (s : Same H H') : Same (Hm D H) (Hm D H') := fun b o e => by
  by_cases c : b = D
  · rw [c, hm_at] at e; cases e
  · rw [hm_ne c] at e ⊢; exact s b o e
theorem Same.hm_upd {D : Addr} {H H' : Hp} (s : Same H H') (o : HO) : Same (Hm D H) (Hm D (upd H' D o)) := fun b u e => by
  by_cases c : b = D
  · rw [c, hm_at] at e; cases e
  · rw [hm_ne c] at e ⊢; rw [upd_ne c]; exact s b u e
theorem hm_out {D : Addr} {H : Hp} : Same (Hm D H) H := fun b u e => by
  by_cases c : b = D
  · rw [c, hm_at] at e; cases e
  · rwa [hm_ne c] at e
/-- what was there before D -/
theorem Same.into {D : Addr} {H0 H : Hp} (s : Same H0 H) (h : H0 D = none) : Same H0 (Hm D H) := fun b u e => by
  have c : b ≠ D := ne_of_none e h
  rw [hm_ne c]; exact s b u e
theorem Reps.snoc {K : PySem.W.Frag} {H : Hp} {d : Dt} {v : V} (h : Rep K H d v) : ∀ {ds : List Dt} {vs : List V}, Reps K H ds vs → Reps K H (ds ++ [d]) (vs ++ [v])
  | [], _, r => by
    unfold Reps at r
    subst r
    show Reps K H [d] [v]
    unfold Reps
    exact ⟨v, [], rfl, h, by unfold Reps; rfl⟩
  | e :: ds, _, r => by
    unfold Reps at r
    obtain ⟨x, xs, rfl, q, t⟩ := r
    show Reps K H (e :: (ds ++ [d])) (x :: (xs ++ [v]))
    unfold Reps
    exact ⟨x, _, rfl, q, Reps.snoc h t⟩
theorem Reps.append {K : PySem.W.Frag} {H : Hp} : ∀ {ds es : List Dt} {vs ws : List V}, Reps K H ds vs → Reps K H es ws → Reps K H (ds ++ es) (vs ++ ws)
  | [], es, _, ws, r, r2 => by unfold Reps at r; subst r; exact r2
  | e :: ds, es, _, ws, r, r2 => by
    unfold Reps at r
    obtain ⟨x, xs, rfl, q, t⟩ := r
    show Reps K H (e :: (ds ++ es)) (x :: (xs ++ ws))
    unfold Reps
    exact ⟨x, _, rfl, q, Reps.append t r2⟩
theorem Reps.at_ {K : PySem.W.Frag} {H : Hp} : ∀ {ds : List Dt} {vs : List V}, Reps K H ds vs → ∀ (i : Nat) (v : V), vs[i]? = some v → ∃ d, ds[i]? = some d ∧ Rep K H d v
  | [], _, r, i, v, e => by unfold Reps at r; subst r; simp at e
  | d :: ds, _, r, i, v, e => by
    unfold Reps at r
    obtain ⟨x, xs, rfl, q, t⟩ := r
    cases i with
    | zero => simp at e; subst e; exact ⟨d, rfl, q⟩
    | succ i => simpa using Reps.at_ t i v (by simpa using e)
theorem Reps.get {K : PySem.W.Frag} {H : Hp} {ds : List Dt} {vs : List V} (r : Reps K H ds vs) (i : Nat) (d : Dt) (e : ds[i]? = some d) : ∃ v, vs[i]? = some v ∧ Rep K H d v := by
  have hl := r.length
  have hi : i < vs.length := by
    have := (List.getElem?_eq_some_iff.mp e).1
    omega
  obtain ⟨d', e', q⟩ := r.at_ i vs[i] (List.getElem?_eq_getElem hi)
  rw [e] at e'
  cases e'
  exact ⟨_, List.getElem?_eq_getElem hi, q⟩
theorem Reps.erase {K : PySem.W.Frag} {H : Hp} : ∀ {ds : List Dt} {vs : List V} (i : Nat), Reps K H ds vs → Reps K H (ds.eraseIdx i) (vs.eraseIdx i)
  | [], _, i, r => by unfold Reps at r; subst r; simp; unfold Reps; rfl
  | d :: ds, _, i, r => by
    unfold Reps at r
    obtain ⟨x, xs, rfl, q, t⟩ := r
    cases i with
    | zero => exact t
    | succ i =>
      show Reps K H (d :: ds.eraseIdx i) (x :: xs.eraseIdx i)
      unfold Reps
      exact ⟨x, _, rfl, q, Reps.erase i t⟩
/-- tuples of ints -/
abbrev tupI (t : List Int) : Dt := .tup (t.map Dt.int)
abbrev lstI (t : List Int) : Dt := .lst (t.map Dt.int)
theorem rep_int {K : PySem.W.Frag} {H : Hp} {i : Int} {v : V} (h : Rep K H (.int i) v) : v = .int i := by unfold Rep at h; exact h
theorem reps_int_vals {K : PySem.W.Frag} {H : Hp} : ∀ {t : List Int} {vs : List V}, Reps K H (t.map Dt.int) vs → vs = t.map V.int
  | [], _, r => by unfold Reps at r; exact r
  | i :: t, _, r => by
    rw [List.map_cons] at r
    unfold Reps at r
    obtain ⟨x, xs, rfl, q, t'⟩ := r
    rw [rep_int q, reps_int_vals t']
    rfl
theorem rep_tupI {K : PySem.W.Frag} {H : Hp} {t : List Int} {v : V} : Rep K H (tupI t) v ↔ ∃ a, v = .ref a ∧ SqT K H a (t.map V.int) := by
  constructor
  · intro h
    unfold tupI Rep at h
    obtain ⟨a, xs, rfl, q, r⟩ := h
    exact ⟨a, rfl, reps_int_vals r ▸ q⟩
  · rintro ⟨a, rfl, q⟩
    unfold tupI Rep
    exact ⟨a, _, rfl, q, reps_ints t⟩
theorem rep_lstI {K : PySem.W.Frag} {H : Hp} {t : List Int} {v : V} : Rep K H (lstI t) v ↔ ∃ a, v = .ref a ∧ SqL K H a (t.map V.int) := by
  constructor
  · intro h
    unfold lstI Rep at h
    obtain ⟨a, xs, rfl, q, r⟩ := h
    exact ⟨a, rfl, reps_int_vals r ▸ q⟩
  · rintro ⟨a, rfl, q⟩
    unfold lstI Rep
    exact ⟨a, _, rfl, q, reps_ints t⟩
theorem reps_tups {K : PySem.W.Frag} {H : Hp} : ∀ {ts : List (List Int)} {vs : List V}, Reps K H (ts.map tupI) vs → ∃ ps : List (Addr × List Int), vs = ps.map rv ∧ ps.map (·.2) = ts ∧ ∀ p ∈ ps, SqT K H p.1 (p.2.map V.int)
  | [], _, r => by unfold Reps at r; subst r; exact ⟨[], rfl, rfl, fun p hp => by cases hp⟩
  | t :: ts, _, r => by
    rw [List.map_cons] at r
    unfold Reps at r
    obtain ⟨x, xs, rfl, q, t'⟩ := r
    obtain ⟨a, rfl, qa⟩ := rep_tupI.mp q
    obtain ⟨ps, rfl, e2, e3⟩ := reps_tups t'
    refine ⟨(a, t) :: ps, rfl, by rw [List.map_cons, e2], fun p hp => ?_⟩
    rcases List.mem_cons.mp hp with rfl | hp
    · exact qa
    · exact e3 p hp
theorem tups_reps {K : PySem.W.Frag} {H : Hp} : ∀ ps : List (Addr × List Int), (∀ p ∈ ps, SqT K H p.1 (p.2.map V.int)) → Reps K H ((ps.map (·.2)).map tupI) (ps.map rv)
  | [], _ => by show Reps K H [] []; unfold Reps; rfl
  | p :: ps, h => by
    show Reps K H (tupI p.2 :: (ps.map (·.2)).map tupI) (rv p :: ps.map rv)
    unfold Reps
    exact ⟨_, _, rfl, rep_tupI.mpr ⟨p.1, rfl, h p List.mem_cons_self⟩, tups_reps ps fun q hq => h q (List.mem_cons_of_mem _ hq)⟩

section
variable {K : PySem.W.Frag} {ix : List (Option Nat)} {te : TE} {σ : St} {H1 : Hp} {Q : Addr → Hp → Prop}
theorem comp_list_rep {a : Addr} {xs : List V} {i₀ : Nat} (f : Nat → Dt) (hq : SqL K H1 a xs) (hz : xs.length ≤ sizeLine)
    (hs : ∀ (D : Addr) (i : Nat) (x : V) (H : Hp) (R : VK), H1 D = none → (∃ ys, H D = some (.lst ys)) → xs[i]? = some x → Same H1 H → (∀ v H6, Same H H6 → Rep K (Hm D H6) (f i) v → R v H6) → te ((capt ix σ).set i₀ (some x)) H R)
    (hd : ∀ D H ys, H1 D = none → Same H1 H → H D = some (.lst ys) → Reps K (Hm D H) ((List.range xs.length).map f) ys → Q D H) : CompW (Itl K a) ix (gName i₀) tYes te σ H1 Q := by
  intro D hD
  refine ⟨fun i m ys H => m = xs.length - i ∧ i ≤ xs.length ∧ Same H1 H ∧ Reps K (Hm D H) ((List.range i).map f) ys, ⟨xs.length, by simp, Nat.zero_le _, Same.new hD _, by show Reps K _ [] []; unfold Reps; rfl⟩, ?_⟩
  rintro i m ys H ⟨rfl, hi, sm, p⟩ hDl
  have q := sm.seq hq
  by_cases hlt : i < xs.length
  · refine .inr ⟨⟨xs, xs[i], q, by simp [hlt]⟩, fun x H3 y => ?_⟩
    obtain ⟨e, y⟩ := y
    subst e
    show te ((capt ix σ).set i₀ (some x)) _ _
    refine hs D i x _ _ hD ⟨ys, hDl⟩ (y xs q) sm fun v H6 s6 rv6 => ?_
    have hyl : ys.length = i := by rw [p.length, List.length_map, List.length_range]
    refine ⟨s6 _ _ hDl, by omega, xs.length - (i + 1), by omega, rfl, hlt, (sm.trans s6).put hD _, ?_⟩
    rw [List.range_succ, List.map_append]
    exact Reps.snoc (rv6.same ((Same.refl H6).hm_upd _)) (p.same (s6.hm_upd _))
  · have e : i = xs.length := by omega
    subst e
    exact .inl ⟨⟨xs, q, Nat.le_refl _⟩, hd D H ys hD sm hDl p⟩
end
end L2

namespace K02
open PySem PySem.Spec PyProof.Rows L2

def top (i : Nat) : Stmt := PySem.Challenge.pw_quiltyard_k02_systems.main.body.getD i (.Pass ⟨0, 0, 0, 0⟩)
abbrev s_are_letters : Stmt := top 11
abbrev s_is_picture : Stmt := top 12
abbrev s_look_picture : Stmt := top 13
abbrev s_are_fields : Stmt := top 18
abbrev s_rises : Stmt := top 19
abbrev s_is_system : Stmt := top 20
abbrev s_look_system : Stmt := top 21
abbrev s_bordered : Stmt := top 22
abbrev s_tiles_of : Stmt := top 23
abbrev s_stands_for : Stmt := top 24
abbrev s_row_fits : Stmt := top 25
abbrev s_rows_fit : Stmt := top 26
abbrev s_shows : Stmt := top 27
abbrev s__law_cell : Stmt := top 29
abbrev s__law_mix : Stmt := top 30
abbrev s__law_tiles : Stmt := top 31
abbrev s__law_system : Stmt := top 32
abbrev s__law_refusal : Stmt := top 33
abbrev s__law_good : Stmt := top 34
abbrev s__law_spoilt : Stmt := top 35
abbrev s__law_told : Stmt := top 36
abbrev s_law : Stmt := top 37
structure Ad where
  f_are_letters : Addr
  d_are_letters : FuncData
  f_is_picture : Addr
  d_is_picture : FuncData
  f_look_picture : Addr
  d_look_picture : FuncData
  f_are_fields : Addr
  d_are_fields : FuncData
  f_rises : Addr
  d_rises : FuncData
  f_is_system : Addr
  d_is_system : FuncData
  f_look_system : Addr
  d_look_system : FuncData
  f_bordered : Addr
  d_bordered : FuncData
  f_tiles_of : Addr
  d_tiles_of : FuncData
  f_stands_for : Addr
  d_stands_for : FuncData
  f_row_fits : Addr
  d_row_fits : FuncData
  f_rows_fit : Addr
  d_rows_fit : FuncData
  f_shows : Addr
  d_shows : FuncData
  f__law_cell : Addr
  d__law_cell : FuncData
  f__law_mix : Addr
  d__law_mix : FuncData
  f__law_tiles : Addr
  d__law_tiles : FuncData
  f__law_system : Addr
  d__law_system : FuncData
  f__law_refusal : Addr
  d__law_refusal : FuncData
  f__law_good : Addr
  d__law_good : FuncData
  f__law_spoilt : Addr
  d__law_spoilt : FuncData
  f__law_told : Addr
  d__law_told : FuncData
  f_law : Addr
  d_law : FuncData
  u_LETTERS : Value
  u_MOST_ROWS : Value
  u_MOST_COLUMNS : Value
  u_BORDER : Value
  u_MOST_MARKS : Value
  u_TILE_FIELDS : Value
  c_QuiltError : Addr
  c_BadPicture : Addr
  c_BadSize : Addr
  c_BadSystem : Addr
  c_BadText : Addr
  c_Unlike : Addr
structure Txt (K : PySem.W.Frag) (mg : Str → Option Value) (t : Ad) : Prop where
  are_letters : Def K mg "are_letters" s_are_letters t.f_are_letters t.d_are_letters ["text"]
  is_picture : Def K mg "is_picture" s_is_picture t.f_is_picture t.d_is_picture ["rows"]
  look_picture : Def K mg "look_picture" s_look_picture t.f_look_picture t.d_look_picture ["picture"]
  are_fields : Def K mg "are_fields" s_are_fields t.f_are_fields t.d_are_fields ["fields", "many", "marks"]
  rises : Def K mg "rises" s_rises t.f_rises t.d_rises ["tiles"]
  is_system : Def K mg "is_system" s_is_system t.f_is_system t.d_is_system ["system"]
  look_system : Def K mg "look_system" s_look_system t.f_look_system t.d_look_system ["system"]
  bordered : Def K mg "bordered" s_bordered t.f_bordered t.d_bordered ["rows"]
  tiles_of : Def K mg "tiles_of" s_tiles_of t.f_tiles_of t.d_tiles_of ["rows"]
  stands_for : Def K mg "stands_for" s_stands_for t.f_stands_for t.d_stands_for ["letters", "mark", "letter"]
  row_fits : Def K mg "row_fits" s_row_fits t.f_row_fits t.d_row_fits ["letters", "text", "marks"]
  rows_fit : Def K mg "rows_fit" s_rows_fit t.f_rows_fit t.d_rows_fit ["letters", "picture", "rows"]
  shows : Def K mg "shows" s_shows t.f_shows t.d_shows ["system", "picture", "rows"]
  _law_cell : Def K mg "_law_cell" s__law_cell t.f__law_cell t.d__law_cell ["_law_script", "_law_k"]
  _law_mix : Def K mg "_law_mix" s__law_mix t.f__law_mix t.d__law_mix ["_law_script", "_law_k"]
  _law_tiles : Def K mg "_law_tiles" s__law_tiles t.f__law_tiles t.d__law_tiles ["_law_rows"]
  _law_system : Def K mg "_law_system" s__law_system t.f__law_system t.d__law_system ["_law_script", "_law_k", "_law_marks"]
  _law_refusal : Def K mg "_law_refusal" s__law_refusal t.f__law_refusal t.d__law_refusal ["_law_kept"]
  _law_good : Def K mg "_law_good" s__law_good t.f__law_good t.d__law_good ["_law_system_here"]
  _law_spoilt : Def K mg "_law_spoilt" s__law_spoilt t.f__law_spoilt t.d__law_spoilt ["_law_system_here", "_law_number"]
  _law_told : Def K mg "_law_told" s__law_told t.f__law_told t.d__law_told ["_law_way", "_law_system_here", "_law_picture", "_law_rows"]
  law : Def K mg "law" s_law t.f_law t.d_law ["_law_script"]
  m_LETTERS : mg "LETTERS" = some t.u_LETTERS
  v_LETTERS : RelV (.str "abcd") t.u_LETTERS
  m_MOST_ROWS : mg "MOST_ROWS" = some t.u_MOST_ROWS
  v_MOST_ROWS : RelV (.int 4) t.u_MOST_ROWS
  m_MOST_COLUMNS : mg "MOST_COLUMNS" = some t.u_MOST_COLUMNS
  v_MOST_COLUMNS : RelV (.int 12) t.u_MOST_COLUMNS
  m_BORDER : mg "BORDER" = some t.u_BORDER
  v_BORDER : RelV (.int (-1)) t.u_BORDER
  m_MOST_MARKS : mg "MOST_MARKS" = some t.u_MOST_MARKS
  v_MOST_MARKS : RelV (.int 16) t.u_MOST_MARKS
  m_TILE_FIELDS : mg "TILE_FIELDS" = some t.u_TILE_FIELDS
  v_TILE_FIELDS : RelV (.int 4) t.u_TILE_FIELDS
  m_QuiltError : mg "QuiltError" = some (.ref t.c_QuiltError)
  m_BadPicture : mg "BadPicture" = some (.ref t.c_BadPicture)
  m_BadSize : mg "BadSize" = some (.ref t.c_BadSize)
  m_BadSystem : mg "BadSystem" = some (.ref t.c_BadSystem)
  m_BadText : mg "BadText" = some (.ref t.c_BadText)
  m_Unlike : mg "Unlike" = some (.ref t.c_Unlike)
  x_BadPicture : ExcCl K mg "BadPicture" t.c_BadPicture
  i_BadPicture : ExcIs K t.c_BadPicture
  x_BadSystem : ExcCl K mg "BadSystem" t.c_BadSystem
  i_BadSystem : ExcIs K t.c_BadSystem
  k_BadPicture_BadPicture : PySem.W.kitOne K (.ref t.c_BadPicture) (.ref t.c_BadPicture) = some true
  k_BadPicture_BadSize : PySem.W.kitOne K (.ref t.c_BadPicture) (.ref t.c_BadSize) = some false
  k_BadPicture_BadSystem : PySem.W.kitOne K (.ref t.c_BadPicture) (.ref t.c_BadSystem) = some false
  k_BadPicture_BadText : PySem.W.kitOne K (.ref t.c_BadPicture) (.ref t.c_BadText) = some false
  k_BadPicture_Unlike : PySem.W.kitOne K (.ref t.c_BadPicture) (.ref t.c_Unlike) = some false
  k_BadPicture_ValueError : PySem.W.kitOne K (.ref t.c_BadPicture) (.type "ValueError") = some true
  k_BadSystem_BadPicture : PySem.W.kitOne K (.ref t.c_BadSystem) (.ref t.c_BadPicture) = some false
  k_BadSystem_BadSize : PySem.W.kitOne K (.ref t.c_BadSystem) (.ref t.c_BadSize) = some false
  k_BadSystem_BadSystem : PySem.W.kitOne K (.ref t.c_BadSystem) (.ref t.c_BadSystem) = some true
  k_BadSystem_BadText : PySem.W.kitOne K (.ref t.c_BadSystem) (.ref t.c_BadText) = some false
  k_BadSystem_Unlike : PySem.W.kitOne K (.ref t.c_BadSystem) (.ref t.c_Unlike) = some false
  k_BadSystem_ValueError : PySem.W.kitOne K (.ref t.c_BadSystem) (.type "ValueError") = some true
  h_BadPicture_QuiltError : PySem.W.exmOne K (.ref t.c_BadPicture) (.ref t.c_QuiltError) = some true
  h_BadSystem_QuiltError : PySem.W.exmOne K (.ref t.c_BadSystem) (.ref t.c_QuiltError) = some true
  kt_bool_bool : PySem.W.kitOne K (.type "bool") (.type "bool") = some true
  kt_str_bool : PySem.W.kitOne K (.type "str") (.type "bool") = some false
  kt_NoneType_bool : PySem.W.kitOne K (.type "NoneType") (.type "bool") = some false
  n_len : mg "len" = none
  n_all : mg "all" = none
  n_any : mg "any" = none
  n_range : mg "range" = none
  n_zip : mg "zip" = none
  n_isinstance : mg "isinstance" = none
  n_max : mg "max" = none
  n_min : mg "min" = none
  n_list : mg "list" = none
  n_tuple : mg "tuple" = none
  n_set : mg "set" = none
  n_sorted : mg "sorted" = none
  n_int : mg "int" = none
  n_dict : mg "dict" = none
  n_bool : mg "bool" = none
  n_ValueError : mg "ValueError" = none

theorem small {n : Nat} (h : n ≤ 1000) : n ≤ sizeLine := Nat.le_of_lt (small1000 h)
section
variable {P : Program} {w : World} {K : PySem.W.Frag} {mg : Str → Option Value} {base : Heap} {t : Ad}
theorem gt_truthL {ta : TE} {σ : L2.St} {H : Hp} {a : Addr} {xs : List V} (h : Gv ta σ H (.ref a)) (hq : SqL K H a xs) : Gt (fun σ H Q => ta σ H fun x H' => ∃ k, TruV K x H' k ∧ Q k H') σ H (!xs.isEmpty) := fun R r => h _ fun H' s => ⟨_, .inl ⟨xs, s.seq hq, rfl⟩, r H' s⟩
def cell (ns : List Int) (k : Int) : Int := if ns = [] then 0 else ns.getD (k % ns.length).toNat 0
def sp_cell (K : PySem.W.Frag) : Sp := fun vs H Q _ => ∃ (a : Addr) (ns : List Int) (k : Int), vs = [.ref a, .int k] ∧ SqL K H a (ns.map V.int) ∧ ns.length ≤ 63 ∧ ∀ H', Same H H' → Q (.int (cell ns k)) H'
theorem sc__law_cell : FnScope ["_law_script", "_law_k"] ["_law_script", "_law_k"] (defScope s__law_cell) := ⟨rfl, rfl, rfl, by decide +kernel, rfl, by decide +kernel, by decide +kernel⟩
theorem ok__law_cell (T : Txt K mg t) : FnOk P w K mg base CX0 1 t.f__law_cell t.d__law_cell ["_law_script", "_law_k"] (sp_cell K) := by
  refine T._law_cell.fn.ok sc__law_cell (fun vs H Q E h => ?_) (fun cdv A outer s H vs Q E hr h => ?_)
  · obtain ⟨a, ns, k, rfl, _⟩ := h
    rfl
  obtain ⟨a, ns, k, rfl, hq, hl, kk⟩ := h
  refine ⟨_, (pss_cons (ps_if (kTruth K (pv 0) (fun _ => rfl)) (pss_one (ps_ret (pe_ix (kIxL K) (pv 0) (pe_op op_mod (pv 1) (pe_callB (kLen K) (by rfl) T.n_len boot_len (pa_cons (pv 0) pa_nil))) (fun _ _ => rfl)))) pss_nil) (pss_one (ps_ret pe_int))), ?_⟩
  refine rq_if (gt_truthL (gv_var (by rfl)) hq) (fun c H1 s1 => ?_) fun c H1 s1 => ?_
  · have ne : ns ≠ [] := fun z => by rw [z] at c; simp at c
    have hpos : 0 < ns.length := List.length_pos_iff.mpr ne
    have hlt : (k % (ns.length : Int)).toNat < ns.length := by
      have h1 := Int.emod_lt_of_pos k (show (0 : Int) < ns.length by omega)
      have h2 := Int.emod_nonneg k (show (ns.length : Int) ≠ 0 by omega)
      omega
    have hat : atI (ns.map V.int) (k % ((ns.map V.int).length : Int)) = some (.int (cell ns k)) := by
      have h2 := Int.emod_nonneg k (show (ns.length : Int) ≠ 0 by omega)
      rw [List.length_map]
      have e : k % (ns.length : Int) = ((k % (ns.length : Int)).toNat : Int) := by omega
      rw [e]
      refine atI_nat ?_
      unfold cell
      rw [if_neg ne, List.getElem?_map, List.getElem?_eq_getElem hlt, List.getD_eq_getElem?_getD, List.getElem?_eq_getElem hlt]
      rfl
    refine rs_ret (gv_ixL (gv_var (by rfl)) (fun H2 s2 => gv_iic (gv_var (by rfl)) (fun H3 s3 => gv_lenL (K := K) (xs := ns.map V.int) (ga_1 (gv_var (by rfl))) ((s1.trans (s2.trans s3)).seq hq)) ?_) (s1.seq hq) hat) fun H2 s2 => kk H2 (s1.trans s2)
    rw [List.length_map]; omega
  · have e : ns = [] := by
      cases ns with
      | nil => rfl
      | cons x xs => simp at c
    have := kk H1 s1
    rw [show cell ns k = 0 by unfold cell; rw [if_pos e]] at this
    exact this
def mix1 (ns : List Int) (k : Int) : Int := (cell ns k + 104729 * (k + 1)) % 4294967291 * 48271 % 4294967279
def mix (ns : List Int) (k : Int) : Int := (mix1 ns k / 64 * 69621 + mix1 ns k) % 4294967231
theorem mix_nn (ns : List Int) (k : Int) : 0 ≤ mix ns k := Int.emod_nonneg _ (by decide)
def sp_mix (K : PySem.W.Frag) : Sp := fun vs H Q _ => ∃ (a : Addr) (ns : List Int) (k : Int), vs = [.ref a, .int k] ∧ SqL K H a (ns.map V.int) ∧ ns.length ≤ 63 ∧ ∀ H', Same H H' → Q (.int (mix ns k)) H'
theorem sc__law_mix : FnScope ["_law_script", "_law_k", "_law_number"] ["_law_script", "_law_k"] (defScope s__law_mix) := ⟨rfl, rfl, rfl, by decide +kernel, rfl, by decide +kernel, by decide +kernel⟩
theorem ok__law_mix (T : Txt K mg t) : FnOk P w K mg base CX0 2 t.f__law_mix t.d__law_mix ["_law_script", "_law_k"] (sp_mix K) := by
  have G__law_cell : FnOk P w K mg base CX0 1 t.f__law_cell t.d__law_cell ["_law_script", "_law_k"] (sp_cell K) := ok__law_cell T
  refine T._law_mix.fn.ok sc__law_mix (fun vs H Q E h => ?_) (fun cdv A outer s H vs Q E hr h => ?_)
  · obtain ⟨a, ns, k, rfl, _⟩ := h
    rfl
  obtain ⟨a, ns, k, rfl, hq, hl, kk⟩ := h
  refine ⟨_, (pss_cons (ps_set (i := 2) sc__law_mix.nd rfl (by first | exact Or.inl rfl | exact Or.inr rfl) (pe_op op_mod (pe_op op_add (pe_callD T._law_cell G__law_cell (hr.mono (by first | decide | omega)) pass0 (pa_cons (pv 0) (pa_cons (pv 1) pa_nil))) (pe_op op_mul pe_int (pe_op op_add (pv 1) pe_int))) pe_int)) (pss_cons (ps_set (i := 2) sc__law_mix.nd rfl (by first | exact Or.inl rfl | exact Or.inr rfl) (pe_op op_mod (pe_op op_mul (pv 2) pe_int) pe_int)) (pss_one (ps_ret (pe_op op_mod (pe_op op_add (pe_op op_mul (pe_op op_fdiv (pv 2) pe_int) pe_int) (pv 2)) pe_int))))), ?_⟩
  refine rq_set (gv_iic (gv_ii (gv_call (v := .int (cell ns k)) (ga_cons (gv_var (by rfl)) fun _ _ => ga_1 (gv_var (by rfl))) fun H1 R s1 k1 => ⟨a, ns, k, rfl, s1.seq hq, hl, k1⟩) fun H1 s1 => gv_iic gv_c (fun H2 s2 => gv_ii (gv_var (by rfl)) fun _ _ => gv_c) (.inl ⟨by decide, by decide⟩)) (fun _ _ => gv_c) (by decide)) fun H1 s1 => ?_
  refine rq_set (gv_iic (gv_iic (gv_var (by rfl)) (fun _ _ => gv_c) (.inr ⟨by decide, by decide⟩)) (fun _ _ => gv_c) (by decide)) fun H2 s2 => ?_
  refine rs_ret (gv_iic (gv_ii (gv_iic (gv_iic (gv_var (by rfl)) (fun _ _ => gv_c) ⟨by decide, by decide⟩) (fun _ _ => gv_c) (.inr ⟨by decide, by decide⟩)) fun _ _ => gv_var (by rfl)) (fun _ _ => gv_c) (by decide)) fun H3 s3 => ?_
  exact kk H3 (s1.trans (s2.trans s3))

end
end K02

set_option maxHeartbeats 1000000
namespace K02
open PySem PySem.Spec PyProof.Rows L2
section
variable {P : Program} {w : World} {K : PySem.W.Frag} {mg : Str → Option Value} {base : Heap} {t : Ad}
def Gd (K : PySem.W.Frag) (te : TE) (σ : L2.St) (H : Hp) (ds : List Dt) : Prop := ∀ R : VK, (∀ p H' vs, H p = none → Same H H' → H' p = some (.lst vs) → Reps K (Hm p H') ds vs → R (.ref p) H') → te σ H R
theorem gd_to {te : TE} {σ : L2.St} {H : Hp} {ds : List Dt} {R : VK} (h : Gd K te σ H ds) (r : ∀ p H' vs, H p = none → Same H H' → H' p = some (.lst vs) → Reps K (Hm p H') ds vs → R (.ref p) H') : te σ H R := h R r
theorem gd_one {te : TE} {σ : L2.St} {H : Hp} {ns : List Int} (h : Gn te σ H (ns.map V.int)) : Gd K (tLst (tCons te tNil)) σ H [lstI ns] := fun R r =>
  h _ fun p H1 hp s1 hl => ⟨(by show 1 ≤ sizeLine; decide), fun q hq => r q _ _ (s1.free hq) (s1.trans (Same.new hq _)) upd_same (by
    unfold Reps
    refine ⟨_, _, rfl, rep_lstI.mpr ⟨p, rfl, SqL.of ?_⟩, by unfold Reps; rfl⟩
    have ne : p ≠ q := ne_of_none hl hq
    rw [hm_ne ne, upd_ne ne]
    exact hl)⟩
theorem gd_cat {ta tb : TE} {σ : L2.St} {H : Hp} {ds es : List Dt} (ha : Gd K ta σ H ds) (hb : ∀ H', Same H H' → Gd K tb σ H' es) (hz : ds.length + es.length ≤ sizeLine) : Gd K (tOp rCat ta tb) σ H (ds ++ es) := fun R r =>
  ha _ fun a H1 vs ha1 s1 hl1 r1 => hb H1 s1 _ fun b H2 ws hb2 s2 hl2 r2 => by
    refine ⟨a, b, vs, ws, rfl, rfl, s2 _ _ hl1, hl2, by rw [r1.length, r2.length]; exact hz, fun q hq => ?_⟩
    have sq : Same H2 (Hm q (upd H2 q (.lst (vs ++ ws)))) := (Same.new hq _).into hq
    exact r q _ _ ((s1.trans s2).free hq) ((s1.trans s2).trans (Same.new hq _)) upd_same (Reps.append (r1.same (hm_out.trans (s2.trans sq))) (r2.same (hm_out.trans sq)))
theorem gn_rep {ta tb : TE} {σ : L2.St} {H : Hp} {xs : List V} {k : Nat} (ha : Gn ta σ H xs) (hb : ∀ H', Same H H' → Gv tb σ H' (.int k)) (hk : k ≤ 1000) (hz : xs.length * k ≤ 1000) : Gn (tOp rRep ta tb) σ H (List.replicate k xs).flatten := fun R r =>
  ha _ fun a H1 ha1 s1 hl1 => hb H1 s1 _ fun H2 s2 => ⟨a, k, xs, rfl, rfl, s2 _ _ hl1, by omega, by omega, by rw [Int.toNat_natCast]; exact small hz, fun q hq => by
    have := r q _ ((s1.trans s2).free hq) ((s1.trans s2).trans (Same.new hq _)) upd_same
    rw [Int.toNat_natCast]
    exact this⟩
theorem gn_list {tt : TA} {σ : L2.St} {H : Hp} {p : Addr} {ys : List V} (h : Ga tt σ H [.ref p]) (hq : SqL K H p ys) : Gn (tCB (fun xs H Q => ∃ p ys, xs = [.ref p] ∧ (SqL K H p ys ∨ SqT K H p ys) ∧ ∀ l, H l = none → Q (.ref l) (upd H l (.lst ys))) tt) σ H ys := fun R r =>
  h _ fun H1 s1 => ⟨p, ys, rfl, .inl (s1.seq hq), fun l hl => r l _ (s1.free hl) (s1.trans (Same.new hl _)) upd_same⟩
theorem flat_ints (k : Nat) (i : Int) : (List.replicate k [V.int i]).flatten = (List.replicate k i).map V.int := by
  induction k with
  | zero => rfl
  | succ k ih => rw [List.replicate_succ, List.flatten_cons, ih, List.replicate_succ]; rfl
theorem rs_forR {tt : TA} {g : TG} {tb : TS} {D : Ends} {σ : L2.St} {H : Hp} {n : Nat} (h : Ga tt σ H [.int (n : Int)]) (hn : n ≤ 1000) (Pv : Nat → L2.St → Hp → Prop) (h0 : ∀ H', Same H H' → Pv 0 σ H')
    (hs : ∀ i σ H, i < n → Pv i σ H → g (.int (i : Int)) σ H fun σ2 H2 => tb { D with nx := Pv (i + 1), ct := Pv (i + 1), bk := D.nx } σ2 H2) (hd : ∀ σ H, Pv n σ H → D.nx σ H) : tFor (iRng1 tt) g tb D σ H :=
  h _ fun H' s' => ⟨(n : Int), rfl, by omega, by omega, for_range (n := (n : Int).toNat) Pv (h0 H' s') (fun i σ H hi p => by
    rw [Int.toNat_natCast] at hi
    rw [Int.zero_add]
    exact hs i σ H hi p) fun σ H p => by rw [Int.toNat_natCast] at p; exact hd σ H p⟩
theorem rq_forR {tt : TA} {g : TG} {tb us : TS} {D : Ends} {σ : L2.St} {H : Hp} {n : Nat} (h : Ga tt σ H [.int (n : Int)]) (hn : n ≤ 1000) (Pv : Nat → L2.St → Hp → Prop) (h0 : ∀ H', Same H H' → Pv 0 σ H')
    (hs : ∀ i σ H, i < n → Pv i σ H → g (.int (i : Int)) σ H fun σ2 H2 => tb { D with nx := Pv (i + 1), ct := Pv (i + 1), bk := us D } σ2 H2) (hd : ∀ σ H, Pv n σ H → us D σ H) : tSeq (tFor (iRng1 tt) g tb) us D σ H :=
  rs_forR (D := { D with nx := us D }) h hn Pv h0 hs hd
def wid (rows : List (List Int)) : Nat := (rows.headD []).length
def edge (rows : List (List Int)) : List Int := List.replicate (wid rows + 2) (-1)
def bord (rows : List (List Int)) : List (List Int) := [edge rows] ++ rows.map (fun r => [-1] ++ r ++ [-1]) ++ [edge rows]
def tileAt (b : List (List Int)) (y x : Nat) : List Int := [(b.getD y []).getD x 0, (b.getD y []).getD (x + 1) 0, (b.getD (y + 1) []).getD x 0, (b.getD (y + 1) []).getD (x + 1) 0]
def lineOf (rows : List (List Int)) (y : Nat) : List (List Int) := (List.range (wid rows + 1)).map (tileAt (bord rows) y)
def grid (rows : List (List Int)) : List (List Int) := (List.range (rows.length + 1)).flatMap (lineOf rows)
theorem bord_len (rows : List (List Int)) : (bord rows).length = rows.length + 2 := by unfold bord; simp
theorem bord_row {rows : List (List Int)} (hr : ∀ r ∈ rows, r.length = wid rows) {y : Nat} (hy : y < rows.length + 2) : ((bord rows).getD y []).length = wid rows + 2 := by
  have hm : (bord rows).getD y [] ∈ bord rows := by
    rw [List.getD_eq_getElem?_getD, List.getElem?_eq_getElem (by rw [bord_len]; exact hy)]
    exact List.getElem_mem _
  generalize (bord rows).getD y [] = z at hm
  unfold bord edge at hm
  simp only [List.mem_append, List.mem_singleton, List.mem_map] at hm
  rcases hm with (rfl | ⟨r, hr', rfl⟩) | rfl
  · simp
  · have := hr r hr'
    simp
    omega
  · simp
theorem flat_len (rows : List (List Int)) : ∀ i, ((List.range i).flatMap (lineOf rows)).length = i * (wid rows + 1)
  | 0 => by simp
  | i + 1 => by
    rw [List.range_succ, List.flatMap_append, List.length_append, flat_len rows i, Nat.succ_mul]
    simp [lineOf]
theorem targ_tup {tt : TA} {σ : L2.St} {H : Hp} {vs : List V} {R : List V → Hp → Prop} (h : Ga tt σ H vs) (hz : vs.length ≤ sizeLine) (k : ∀ H1 p, Same H H1 → H1 p = none → R [.ref p] (upd H1 p (.tup vs))) : tCons (tTup tt) tNil σ H R := h _ fun H1 s1 => ⟨hz, fun p hp => k H1 p s1 hp⟩
def sp_tiles (K : PySem.W.Frag) : Sp := fun vs H Q _ => ∃ (a : Addr) (rows : List (List Int)), vs = [.ref a] ∧ Rep K H (.lst (rows.map lstI)) (.ref a) ∧ rows ≠ [] ∧ (∀ r ∈ rows, r.length = wid rows) ∧ rows.length ≤ 20 ∧ wid rows ≤ 20 ∧
  ∀ (F : Addr) (H' : Hp) (ws : List V), H F = none → Same H H' → H' F = some (.lst ws) → Reps K (Hm F H') ((grid rows).map tupI) ws → Q (.ref F) H'
theorem atI_ints {r : List Int} {x : Nat} (h : x < r.length) : atI (r.map V.int) (x : Int) = some (.int (r.getD x 0)) := atI_nat (by simp [List.getD_eq_getElem?_getD, h])
theorem sc__law_tiles : FnScope ["_law_rows", "_law_wide", "_law_some", "_law_found", "_law_y", "_law_x"] ["_law_rows"] (defScope s__law_tiles) := ⟨rfl, rfl, rfl, by decide +kernel, rfl, by decide +kernel, by decide +kernel⟩
theorem ok__law_tiles (T : Txt K mg t) : FnOk P w K mg base CX0 1 t.f__law_tiles t.d__law_tiles ["_law_rows"] (sp_tiles K) := by
  refine T._law_tiles.fn.ok sc__law_tiles (fun vs H Q E h => ?_) (fun cdv A outer s H vs Q E hr h => ?_)
  · obtain ⟨a, rows, rfl, _⟩ := h
    rfl
  obtain ⟨a, rows, rfl, hrep, hne, hrect, hlen, hwid, kk⟩ := h
  unfold Rep at hrep
  obtain ⟨a', xs, e, hq, hreps⟩ := hrep
  cases e
  have hxl : xs.length = rows.length := by rw [hreps.length, List.length_map]
  refine ⟨_, (pss_cons (ps_set (i := 1) sc__law_tiles.nd rfl (by first | exact Or.inl rfl | exact Or.inr rfl) (pe_op op_add (pe_callB (kLen K) (by rfl) T.n_len boot_len (pa_cons (pe_ix (kIxL K) (pv 0) pe_int (fun _ _ => rfl)) pa_nil)) pe_int)) (pss_cons (ps_set (i := 2) sc__law_tiles.nd rfl (by first | exact Or.inl rfl | exact Or.inr rfl) (pe_op op_cat (pe_op op_cat (pe_lst (pa_cons (pe_op op_rep (pe_lst (pa_cons (pe_un un_neg pe_int) pa_nil)) (pv 1)) pa_nil)) (pe_comp (N' := ["_law_row"]) (ix := [none]) (compScope_of (by kernel_rfl)) rfl (kiList K (pv 0)) (fun _ _ _ _ => (pg_name (i := 0) (show List.Nodup (["_law_row"] : List Str) from by decide +kernel) rfl (by first | exact Or.inl rfl | exact Or.inr rfl))) (fun _ _ _ _ => pf_nil) (fun _ _ _ _ => (pe_op op_cat (pe_op op_cat (pe_lst (pa_cons (pe_un un_neg pe_int) pa_nil)) (pe_callTy (kList K) (by rfl) T.n_list boot_list (pa_cons (pv 0) pa_nil))) (pe_lst (pa_cons (pe_un un_neg pe_int) pa_nil)))))) (pe_lst (pa_cons (pe_op op_rep (pe_lst (pa_cons (pe_un un_neg pe_int) pa_nil)) (pv 1)) pa_nil)))) (pss_cons (ps_set (i := 3) sc__law_tiles.nd rfl (by first | exact Or.inl rfl | exact Or.inr rfl) (pe_lst pa_nil)) (pss_cons (ps_for PassesOwn.never rfl (pi_range1 rfl T.n_range (pa_cons (pe_op op_sub (pe_callB (kLen K) (by rfl) T.n_len boot_len (pa_cons (pv 2) pa_nil)) pe_int) pa_nil)) (pg_name (i := 4) sc__law_tiles.nd rfl (by first | exact Or.inl rfl | exact Or.inr rfl)) (pss_one (ps_for PassesOwn.never rfl (pi_range1 rfl T.n_range (pa_cons (pe_op op_sub (pv 1) pe_int) pa_nil)) (pg_name (i := 5) sc__law_tiles.nd rfl (by first | exact Or.inl rfl | exact Or.inr rfl)) (pss_one (ps_expr (kBm K PySem.F.plainAttrs_list PySem.F.slot_list_append PySem.F.type_list_append mt_append (pv 3) (pa_cons (pe_tup (pa_cons (pe_ix (kIxL K) (pe_ix (kIxL K) (pv 2) (pv 4) (fun _ _ => rfl)) (pv 5) (fun _ _ => rfl)) (pa_cons (pe_ix (kIxL K) (pe_ix (kIxL K) (pv 2) (pv 4) (fun _ _ => rfl)) (pe_op op_add (pv 5) pe_int) (fun _ _ => rfl)) (pa_cons (pe_ix (kIxL K) (pe_ix (kIxL K) (pv 2) (pe_op op_add (pv 4) pe_int) (fun _ _ => rfl)) (pv 5) (fun _ _ => rfl)) (pa_cons (pe_ix (kIxL K) (pe_ix (kIxL K) (pv 2) (pe_op op_add (pv 4) pe_int) (fun _ _ => rfl)) (pe_op op_add (pv 5) pe_int) (fun _ _ => rfl)) pa_nil))))) pa_nil))))))) (pss_one (ps_ret (pv 3))))))), ?_⟩
  obtain ⟨r0, rr, rfl⟩ : ∃ r0 rr, rows = r0 :: rr := by
    cases rows with
    | nil => exact absurd rfl hne
    | cons r0 rr => exact ⟨r0, rr, rfl⟩
  obtain ⟨v0, hv0, hr0⟩ := hreps.get 0 (lstI r0) rfl
  obtain ⟨b0, rfl, hb0⟩ := rep_lstI.mp hr0
  refine rq_set (gv_eq (gv_ii (gv_lenL (K := K) (ga_1 (gv_ixL (K := K) (gv_var (by rfl)) (fun _ _ => gv_c) hq (atI_nat (j := 0) hv0))) hb0) fun _ _ => gv_c) (y := .int ((wid (r0 :: rr) + 2 : Nat) : Int)) (by rw [List.length_map]; rfl)) fun H1 s1 => ?_
  have neg1 : ∀ {σ : L2.St} {Hx : Hp}, Gv (tUn (rU fun i => .int (-i)) (tC (.int 1))) σ Hx (.int (-1)) := gv_neg gv_c
  have edgeG : ∀ {σ : L2.St} {Hx : Hp}, σ[1]? = some (some (V.int ((wid (r0 :: rr) + 2 : Nat) : Int))) → Gn (tOp rRep (tLst (tCons (tUn (rU fun i => .int (-i)) (tC (.int 1))) tNil)) (tVar 1)) σ Hx ((edge (r0 :: rr)).map V.int) := fun h1 =>
    gn_eq (gn_rep (gn_lst (ga_1 neg1) (by show 1 ≤ sizeLine; decide)) (fun _ _ => gv_var h1) (by omega) (by simp; omega)) (flat_ints _ _)
  have hmid : (r0 :: rr).map (fun r => lstI ([-1] ++ r ++ [-1])) = (List.range xs.length).map fun i => lstI ([-1] ++ (r0 :: rr).getD i [] ++ [-1]) := by
    rw [hxl]
    refine List.ext_getElem (by simp) fun i h1 h2 => ?_
    have hi : i < (r0 :: rr).length := by simpa using h1
    rw [List.getElem_map, List.getElem_map, List.getElem_range, List.getD_eq_getElem?_getD, List.getElem?_eq_getElem hi]
    rfl
  refine rq_set' (gd_to (K := K) (gd_cat (gd_cat (gd_one (edgeG (by rfl))) (fun H2 s2 => (show Gd K _ _ H2 ((r0 :: rr).map fun r => lstI ([-1] ++ r ++ [-1])) from fun R r => ?_)) (small (by simp at hlen ⊢; omega))) (fun H2 s2 => gd_one (edgeG (by rfl))) (small (by simp at hlen ⊢; omega))) fun S H2 ws hS s2 hS2 rS => ?_)
  · refine tcompL (K := K) (gv_var (by rfl)) ((s1.trans s2).seq hq) fun H4 s4 hq4 => ?_
    refine comp_list_rep (fun i => lstI ([-1] ++ (r0 :: rr).getD i [] ++ [-1])) hq4 (small (by omega)) (fun D i x H5 R5 hD hDs hx s5 k5 => ?_) fun D H5 ys hD s5 hDl rep => r D H5 ys (s4.free hD) (s4.trans s5) hDl (by rw [hmid]; exact rep)
    obtain ⟨d, hd, hdx⟩ := hreps.at_ i x hx
    obtain ⟨r', hr', hrl⟩ : ∃ r', (r0 :: rr)[i]? = some r' ∧ d = lstI r' := by
      rw [List.getElem?_map] at hd
      cases e : (r0 :: rr)[i]? with
      | none => rw [e] at hd; cases hd
      | some r' => rw [e] at hd; exact ⟨r', rfl, (Option.some.inj hd).symm⟩
    subst hrl
    obtain ⟨b, rfl, hb⟩ := rep_lstI.mp hdx
    have hgd : (r0 :: rr).getD i [] = r' := by rw [List.getD_eq_getElem?_getD, hr']; rfl
    have hrw : r'.length ≤ 20 := by rw [hrect r' (List.mem_of_getElem? hr')]; exact hwid
    refine gn_to (gn_catN (gn_catN (gn_lst (ga_1 neg1) (by show 1 ≤ sizeLine; decide)) (fun H6 s6 => gn_list (K := K) (ga_1 (gv_var (by rfl))) ((s1.trans (s2.trans (s4.trans (s5.trans s6)))).seq hb)) (small (by simp; omega))) (fun H6 s6 => gn_lst (ga_1 neg1) (by show 1 ≤ sizeLine; decide)) (small (by simp; omega))) fun p H6 hp s6 hl => ?_
    refine k5 _ H6 s6 (rep_lstI.mpr ⟨p, rfl, SqL.of ?_⟩)
    have ne : p ≠ D := fun z => by
      obtain ⟨ys, hys⟩ := hDs
      rw [z, hys] at hp
      cases hp
    rw [hm_ne ne, hl, hgd]
    simp
  have s02 := s1.trans s2
  have rows_at : ∀ {Hx : Hp}, Same H2 Hx → ∀ y, y < rr.length + 3 → ∃ c, ws[y]? = some (.ref c) ∧ SqL K Hx c (((bord (r0 :: rr)).getD y []).map V.int) := fun {Hx} sx y hy => by
    have hy' : y < (bord (r0 :: rr)).length := by rw [bord_len]; simpa using hy
    have e : ([lstI (edge (r0 :: rr))] ++ (r0 :: rr).map (fun r => lstI ([-1] ++ r ++ [-1])) ++ [lstI (edge (r0 :: rr))]) = (bord (r0 :: rr)).map lstI := by
      unfold bord
      rw [List.map_append, List.map_append, List.map_map]
      rfl
    rw [e] at rS
    obtain ⟨v, hv, hr⟩ := rS.get y (lstI ((bord (r0 :: rr)).getD y [])) (by rw [List.getElem?_map, List.getD_eq_getElem?_getD, List.getElem?_eq_getElem hy']; rfl)
    obtain ⟨c, rfl, hc⟩ := rep_lstI.mp hr
    exact ⟨c, hv, (hm_out.trans sx).seq hc⟩
  have hwl : ws.length = rr.length + 3 := by
    rw [rS.length]
    simp
  refine rq_set' ⟨(by show 0 ≤ sizeLine; decide), fun F hF => ?_⟩
  refine rq_forR (n := rr.length + 2) (ga_1 (gv_eq (gv_ii (gv_lenL (K := K) (ga_1 (gv_var (by rfl))) (SqL.of (Same.new hF _ _ _ hS2))) fun _ _ => gv_c) (by rw [hwl]; congr 1; omega))) (by simp at hlen; omega)
    (fun i σ H3 => ∃ (e4 e5 : Option V) (us : List V), σ = [some (.ref a), some (.int ((wid (r0 :: rr) + 2 : Nat) : Int)), some (.ref S), some (.ref F), e4, e5] ∧ Same H2 H3 ∧ H3 F = some (.lst us) ∧ Reps K (Hm F H3) (((List.range i).flatMap (lineOf (r0 :: rr))).map tupI) us)
    (fun H3 s3 => ⟨none, none, [], rfl, (Same.new hF _).trans s3, s3 _ _ upd_same, by show Reps K _ [] []; unfold Reps; rfl⟩) ?_ ?_
  · rintro i σ H3 hi ⟨e4, e5, us, rfl, s3, hF3, rF3⟩
    refine rs_forR (n := wid (r0 :: rr) + 1) (ga_1 (gv_eq (gv_ii (gv_var (by rfl)) fun _ _ => gv_c) (by congr 1; omega))) (by omega)
      (fun j σ H4 => ∃ (e5 : Option V) (us : List V), σ = [some (.ref a), some (.int ((wid (r0 :: rr) + 2 : Nat) : Int)), some (.ref S), some (.ref F), some (.int (i : Int)), e5] ∧ Same H2 H4 ∧ H4 F = some (.lst us) ∧ Reps K (Hm F H4) ((((List.range i).flatMap (lineOf (r0 :: rr))) ++ (List.range j).map (tileAt (bord (r0 :: rr)) i)).map tupI) us)
      (fun H4 s4 => ⟨e5, us, rfl, s3.trans s4, s4 _ _ hF3, by simpa using rF3.same s4.hm⟩) ?_ ?_
    · rintro j σ H4 hj ⟨e5, us, rfl, s4, hF4, rF4⟩
      obtain ⟨c1, hc1, q1⟩ := rows_at s4 i (by omega)
      obtain ⟨c2, hc2, q2⟩ := rows_at s4 (i + 1) (by omega)
      have l1 := bord_row hrect (y := i) (by simp; omega)
      have l2 := bord_row hrect (y := i + 1) (by simp; omega)
      have it : ∀ {σ : L2.St} {Hx : Hp} {tb tc : TE} {y x : Nat} {c : Addr}, σ[2]? = some (some (V.ref S)) → Same H4 Hx → ws[y]? = some (.ref c) → SqL K H4 c (((bord (r0 :: rr)).getD y []).map V.int) → x < ((bord (r0 :: rr)).getD y []).length → (∀ Hy, Same Hx Hy → Gv tb σ Hy (.int (y : Int))) → (∀ Hy, Same Hx Hy → Gv tc σ Hy (.int (x : Int))) →
          Gv (tOp (rIxL K) (tOp (rIxL K) (tVar 2) tb) tc) σ Hx (.int (((bord (r0 :: rr)).getD y []).getD x 0)) := fun h2 sx hw hc hx hb hcx =>
        gv_ixL (K := K) (gv_ixL (K := K) (gv_var h2) hb (SqL.of ((s4.trans sx) _ _ hS2)) (atI_nat hw)) hcx (sx.seq hc) (atI_ints hx)
      have vy : ∀ {σ : L2.St} {Hx : Hp}, σ[4]? = some (some (V.int (i : Int))) → ∀ Hy, Same Hx Hy → Gv (tVar 4) σ Hy (.int (i : Int)) := fun h _ _ => gv_var h
      have vx : ∀ {σ : L2.St} {Hx : Hp}, σ[5]? = some (some (V.int (j : Int))) → ∀ Hy, Same Hx Hy → Gv (tVar 5) σ Hy (.int (j : Int)) := fun h _ _ => gv_var h
      have vy1 : ∀ {σ : L2.St} {Hx : Hp}, σ[4]? = some (some (V.int (i : Int))) → ∀ Hy, Same Hx Hy → Gv (tOp (rI0 fun i j => .int (i + j)) (tVar 4) (tC (.int 1))) σ Hy (.int ((i + 1 : Nat) : Int)) := fun h _ _ => gv_eq (gv_ii (gv_var h) fun _ _ => gv_c) rfl
      have vx1 : ∀ {σ : L2.St} {Hx : Hp}, σ[5]? = some (some (V.int (j : Int))) → ∀ Hy, Same Hx Hy → Gv (tOp (rI0 fun i j => .int (i + j)) (tVar 5) (tC (.int 1))) σ Hy (.int ((j + 1 : Nat) : Int)) := fun h _ _ => gv_eq (gv_ii (gv_var h) fun _ _ => gv_c) rfl
      refine ⟨_, rfl, .inl ⟨rfl, _, SqL.of hF4⟩, ?_⟩
      refine targ_tup (ga_cons (it (y := i) (x := j) rfl (Same.refl _) hc1 q1 (by omega) (vy rfl) (vx rfl)) fun H5 s5 => ga_cons (it (y := i) (x := j + 1) rfl s5 hc1 q1 (by omega) (vy rfl) (vx1 rfl)) fun H6 s6 => ga_cons (it (y := i + 1) (x := j) rfl (s5.trans s6) hc2 q2 (by omega) (vy1 rfl) (vx rfl)) fun H7 s7 => ga_1 (it (y := i + 1) (x := j + 1) rfl (s5.trans (s6.trans s7)) hc2 q2 (by omega) (vy1 rfl) (vx1 rfl))) (by show 4 ≤ sizeLine; decide) fun H5 p s5 hp => ?_
      have sp := Same.new hp (.tup [V.int (((bord (r0 :: rr)).getD i []).getD j 0), .int (((bord (r0 :: rr)).getD i []).getD (j + 1) 0), .int (((bord (r0 :: rr)).getD (i + 1) []).getD j 0), .int (((bord (r0 :: rr)).getD (i + 1) []).getD (j + 1) 0)])
      have hFp := sp _ _ (s5 _ _ hF4)
      refine ⟨F, us, _, rfl, rfl, hFp, ?_, ?_⟩
      · rw [rF4.length]
        refine Nat.lt_of_le_of_lt (show _ ≤ 1000 from ?_) (by decide)
        have hfl := flat_len (r0 :: rr) i
        simp only [List.length_map, List.length_append, List.length_range]
        have : i * (wid (r0 :: rr) + 1) ≤ 22 * 21 := Nat.mul_le_mul (by simp at hlen; omega) (by omega)
        omega
      · refine ⟨_, us ++ [.ref p], rfl, (s4.trans (s5.trans sp)).put hF _, upd_same, ?_⟩
        have ne : p ≠ F := fun z => by rw [z, s5 _ _ hF4] at hp; cases hp
        have e : (((List.range i).flatMap (lineOf (r0 :: rr))) ++ (List.range (j + 1)).map (tileAt (bord (r0 :: rr)) i)).map tupI = (((List.range i).flatMap (lineOf (r0 :: rr))) ++ (List.range j).map (tileAt (bord (r0 :: rr)) i)).map tupI ++ [tupI (tileAt (bord (r0 :: rr)) i j)] := by
          simp [List.range_succ]
        rw [e]
        refine Reps.snoc (rep_tupI.mpr ⟨p, rfl, SqT.of ?_⟩) (rF4.same ((s5.trans sp).hm_upd _))
        rw [hm_ne ne, upd_ne ne, upd_same]
        rfl
    · rintro σ H4 ⟨e5, us, rfl, s4, hF4, rF4⟩
      refine ⟨_, _, us, rfl, s4, hF4, ?_⟩
      rw [List.range_succ, List.flatMap_append]
      simpa [lineOf] using rF4
  · rintro σ H3 ⟨e4, e5, us, rfl, s3, hF3, rF3⟩
    refine ⟨_, rfl, kk F H3 us (s02.free hF) (s02.trans s3) hF3 ?_⟩
    unfold grid
    exact rF3
end
end K02

namespace K02
open PySem PySem.Spec PyProof.Rows L2
def corners : List (List Int) := [[-1, -1, -1, 0], [-1, -1, -1, 1], [-1, -1, -1, 2], [-1, -1, 0, -1], [-1, -1, 1, -1], [-1, -1, 2, -1], [-1, 0, -1, -1], [-1, 1, -1, -1], [-1, 2, -1, -1], [0, -1, -1, -1], [1, -1, -1, -1], [2, -1, -1, -1]]
def nonc (t : List Int) : Bool := !corners.contains t
def TileOk (n : Nat) (t : List Int) : Prop := t.length = 4 ∧ ∀ f ∈ t, -1 ≤ f ∧ f < n
structure Sys (m : Nat) (x : Str) (ts : List (List Int)) : Prop where
  pos : 1 ≤ x.length
  most : x.length ≤ m
  ab : ∀ c ∈ x.cps.toList, c = 97 ∨ c = 98
  ok : ∀ t ∈ ts, TileOk x.length t
  up : ts.Pairwise fun a b => HT.lexLt a b = true
  few : ts.countP nonc ≤ 39
/-- rows of marks -/
structure Marks (n : Nat) (rows : List (List Int)) : Prop where
  ne : rows ≠ []
  high : rows.length ≤ 3
  wide : 1 ≤ wid rows ∧ wid rows ≤ 3
  rect : ∀ r ∈ rows, r.length = wid rows
  in_ : ∀ r ∈ rows, ∀ f ∈ r, 0 ≤ f ∧ f < n
theorem bord_0 (rows : List (List Int)) : (bord rows).getD 0 [] = edge rows := rfl
theorem bord_mid (rows : List (List Int)) {i : Nat} (h : i < rows.length) : (bord rows).getD (i + 1) [] = [-1] ++ rows.getD i [] ++ [-1] := by
  unfold bord
  rw [List.getD_eq_getElem?_getD, List.getElem?_append_left (by simp; omega), List.getElem?_append_right (by simp)]
  simp [List.getD_eq_getElem?_getD, h]
theorem bord_last (rows : List (List Int)) : (bord rows).getD (rows.length + 1) [] = edge rows := by
  unfold bord
  rw [List.getD_eq_getElem?_getD, List.getElem?_append_right (by simp)]
  simp
theorem edge_at (rows : List (List Int)) {x : Nat} (h : x < wid rows + 2) : (edge rows).getD x 0 = -1 := by
  unfold edge
  rw [List.getD_eq_getElem?_getD, List.getElem?_replicate, if_pos h]
  rfl
theorem row_0 (r : List Int) : ([-1] ++ r ++ [-1] : List Int).getD 0 0 = -1 := rfl
theorem row_mid (r : List Int) {i : Nat} (h : i < r.length) : ([-1] ++ r ++ [-1] : List Int).getD (i + 1) 0 = r.getD i 0 := by
  rw [List.getD_eq_getElem?_getD, List.getElem?_append_left (by simp; omega), List.getElem?_append_right (by simp)]
  simp [List.getD_eq_getElem?_getD]
theorem row_last (r : List Int) : ([-1] ++ r ++ [-1] : List Int).getD (r.length + 1) 0 = -1 := by
  rw [List.getD_eq_getElem?_getD, List.getElem?_append_right (by simp)]
  simp
theorem getD_mem {α : Type} {l : List α} {i : Nat} {d : α} (h : i < l.length) : l.getD i d ∈ l := by
  rw [List.getD_eq_getElem?_getD, List.getElem?_eq_getElem h]
  exact List.getElem_mem h
section
variable {n : Nat} {rows : List (List Int)}
theorem bord_in (h : Marks n rows) {y x : Nat} (hy : y < rows.length + 2) (hx : x < wid rows + 2) : -1 ≤ ((bord rows).getD y []).getD x 0 ∧ ((bord rows).getD y []).getD x 0 < n := by
  have hn : (0 : Int) ≤ n := by omega
  have hm : (bord rows).getD y [] ∈ bord rows := getD_mem (by rw [bord_len]; exact hy)
  have hl := bord_row h.rect hy
  have hm2 : ((bord rows).getD y []).getD x 0 ∈ (bord rows).getD y [] := getD_mem (by omega)
  generalize ((bord rows).getD y []).getD x 0 = f at *
  generalize (bord rows).getD y [] = z at *
  unfold bord edge at hm
  simp only [List.mem_append, List.mem_singleton, List.mem_map] at hm
  rcases hm with (rfl | ⟨r, hr, rfl⟩) | rfl
  · have := List.eq_of_mem_replicate hm2; omega
  · simp only [List.mem_append, List.mem_singleton] at hm2
    rcases hm2 with (e | e) | e
    · omega
    · have := h.in_ r hr f e; omega
    · omega
  · have := List.eq_of_mem_replicate hm2; omega
theorem grid_ok (h : Marks n rows) : ∀ t ∈ grid rows, TileOk n t := by
  intro t ht
  unfold grid at ht
  obtain ⟨y, hy, ht⟩ := List.mem_flatMap.mp ht
  obtain ⟨x, hx, rfl⟩ := List.mem_map.mp ht
  have hy := List.mem_range.mp hy
  have hx := List.mem_range.mp hx
  refine ⟨rfl, fun f hf => ?_⟩
  unfold tileAt at hf
  simp only [List.mem_cons, List.not_mem_nil, or_false] at hf
  rcases hf with e | e | e | e <;> rw [e] <;> exact bord_in h (by omega) (by omega)
theorem three {a : Int} (h0 : 0 ≤ a) (h1 : a < n) (hn : n ≤ 3) : a = 0 ∨ a = 1 ∨ a = 2 := by omega
theorem ends_count {α : Type} {p : α → Bool} {f : Nat → α} {w : Nat} (hw : 1 ≤ w) (h0 : p (f 0) = false) (h1 : p (f w) = false) : ((List.range (w + 1)).map f).countP p ≤ w - 1 := by
  obtain ⟨v, rfl⟩ : ∃ v, w = v + 1 := ⟨w - 1, by omega⟩
  rw [List.range_succ, List.map_append, List.countP_append, List.range_succ_eq_map, List.map_cons, List.countP_cons]
  have := List.countP_le_length (p := p) (l := (List.map Nat.succ (List.range v)).map f)
  simp only [List.length_map, List.length_range] at this
  simp [h0, h1]
  simp at this
  omega
theorem flat_count {α : Type} {p : α → Bool} {g : Nat → List α} {h B0 B : Nat} (hh : 1 ≤ h) (c0 : (g 0).countP p ≤ B0) (ch : (g h).countP p ≤ B0) (cm : ∀ y, (g y).countP p ≤ B) : ((List.range (h + 1)).flatMap g).countP p ≤ 2 * B0 + (h - 1) * B := by
  obtain ⟨v, rfl⟩ : ∃ v, h = v + 1 := ⟨h - 1, by omega⟩
  have mid : ∀ l : List Nat, (l.flatMap g).countP p ≤ l.length * B := fun l => by
    induction l with
    | nil => simp
    | cons y l ih =>
      rw [List.flatMap_cons, List.countP_append, List.length_cons, Nat.succ_mul]
      have := cm y
      omega
  rw [List.range_succ, List.flatMap_append, List.countP_append, List.range_succ_eq_map, List.flatMap_cons, List.countP_append]
  have := mid ((List.range v).map Nat.succ)
  simp only [List.length_map, List.length_range] at this
  simp only [List.flatMap_cons, List.flatMap_nil, List.append_nil, Nat.add_sub_cancel]
  omega
theorem grid_few (hn : n ≤ 3) (h : Marks n rows) : (grid rows).countP nonc ≤ 12 ∧ (grid rows).length ≤ 16 := by
  obtain ⟨r0, rr, rfl⟩ : ∃ r0 rr, rows = r0 :: rr := by
    cases rows with
    | nil => exact absurd rfl h.ne
    | cons r0 rr => exact ⟨r0, rr, rfl⟩
  have hw := h.wide
  have hh := h.high
  generalize hrows : r0 :: rr = rows at *
  have hpos : 1 ≤ rows.length := by rw [← hrows]; simp
  have inr : ∀ i, i < rows.length → (rows.getD i []).length = wid rows ∧ ∀ j, j < wid rows → 0 ≤ (rows.getD i []).getD j 0 ∧ (rows.getD i []).getD j 0 < n := fun i hi => by
    have hm : rows.getD i [] ∈ rows := getD_mem hi
    have hl := h.rect _ hm
    exact ⟨hl, fun j hj => h.in_ _ hm _ (getD_mem (by omega))⟩
  obtain ⟨l0, i0⟩ := inr 0 (by omega)
  obtain ⟨l1, i1⟩ := inr (rows.length - 1) (by omega)
  have w1 : wid rows = (wid rows - 1) + 1 := by omega
  have e1 : (bord rows).getD 1 [] = [-1] ++ rows.getD 0 [] ++ [-1] := bord_mid rows (i := 0) (by omega)
  have e2 : (bord rows).getD rows.length [] = [-1] ++ rows.getD (rows.length - 1) [] ++ [-1] := by
    have := bord_mid rows (i := rows.length - 1) (by omega)
    rwa [show rows.length - 1 + 1 = rows.length by omega] at this
  have first : ∀ r : List Int, r.length = wid rows → ([-1] ++ r ++ [-1] : List Int).getD 1 0 = r.getD 0 0 ∧ ([-1] ++ r ++ [-1] : List Int).getD (wid rows) 0 = r.getD (wid rows - 1) 0 ∧ ([-1] ++ r ++ [-1] : List Int).getD (wid rows + 1) 0 = -1 := fun r hr => by
    refine ⟨row_mid r (i := 0) (by omega), ?_, ?_⟩
    · have := row_mid r (i := wid rows - 1) (by omega)
      rwa [show wid rows - 1 + 1 = wid rows by omega] at this
    · rw [← hr]; exact row_last r
  have c00 : nonc (tileAt (bord rows) 0 0) = false := by
    unfold tileAt
    rw [bord_0, e1, edge_at rows (by omega), edge_at rows (by omega), row_0, (first _ l0).1]
    rcases three (i0 0 (by omega)).1 (i0 0 (by omega)).2 hn with e | e | e <;> rw [e] <;> decide
  have c0w : nonc (tileAt (bord rows) 0 (wid rows)) = false := by
    unfold tileAt
    rw [bord_0, e1, edge_at rows (by omega), edge_at rows (by omega), (first _ l0).2.1, (first _ l0).2.2]
    rcases three (i0 (wid rows - 1) (by omega)).1 (i0 (wid rows - 1) (by omega)).2 hn with e | e | e <;> rw [e] <;> decide
  have ch0 : nonc (tileAt (bord rows) rows.length 0) = false := by
    unfold tileAt
    rw [bord_last, e2, edge_at rows (by omega), edge_at rows (by omega), row_0, (first _ l1).1]
    rcases three (i1 0 (by omega)).1 (i1 0 (by omega)).2 hn with e | e | e <;> rw [e] <;> decide
  have chw : nonc (tileAt (bord rows) rows.length (wid rows)) = false := by
    unfold tileAt
    rw [bord_last, e2, edge_at rows (by omega), edge_at rows (by omega), (first _ l1).2.1, (first _ l1).2.2]
    rcases three (i1 (wid rows - 1) (by omega)).1 (i1 (wid rows - 1) (by omega)).2 hn with e | e | e <;> rw [e] <;> decide
  constructor
  · have := flat_count (p := nonc) (g := lineOf rows) hpos (B0 := wid rows - 1) (B := wid rows + 1) (ends_count hw.1 c00 c0w) (ends_count hw.1 ch0 chw) fun y => by
      have := List.countP_le_length (p := nonc) (l := lineOf rows y)
      simpa [lineOf] using this
    have hm : (rows.length - 1) * (wid rows + 1) ≤ 2 * 4 := Nat.mul_le_mul (by omega) (by omega)
    unfold grid
    omega
  · unfold grid
    rw [flat_len]
    exact Nat.mul_le_mul (show rows.length + 1 ≤ 4 by omega) (show wid rows + 1 ≤ 4 by omega)
end
end K02

set_option maxHeartbeats 2000000
namespace K02
open PySem PySem.Spec PyProof.Rows L2
abbrev one1 (c : Nat) : Str := ⟨#[c]⟩
theorem len_ones : ∀ cs : List Nat, ((cs.map one1).map (·.length)).sum = cs.length
  | [] => rfl
  | c :: cs => by
    rw [List.map_cons, List.map_cons, List.sum_cons, len_ones cs, List.length_cons]
    show 1 + _ = _
    omega
theorem glue_fold : ∀ (cs : List Nat) (acc : Array Nat), ((cs.map one1).foldl (fun acc p => acc ++ ("" : Str).cps ++ p.cps) acc).toList = acc.toList ++ cs
  | [], acc => by simp
  | c :: cs, acc => by
    rw [List.map_cons, List.foldl_cons, glue_fold cs]
    show (acc ++ #[] ++ #[c]).toList ++ cs = _
    simp
theorem join_cps (cs : List Nat) : (Txt.join "" (cs.map one1)).cps.toList = cs := by
  cases cs with
  | nil => rfl
  | cons c cs =>
    show ((cs.map one1).foldl (fun acc p => acc ++ ("" : Str).cps ++ p.cps) (one1 c).cps).toList = c :: cs
    rw [glue_fold]
    rfl
section
variable {P : Program} {w : World} {K : PySem.W.Frag} {mg : Str → Option Value} {base : Heap} {t : Ad}
theorem erase_map {α β : Type} (f : α → β) : ∀ (l : List α) (i : Nat), (l.eraseIdx i).map f = (l.map f).eraseIdx i
  | [], i => rfl
  | x :: xs, 0 => rfl
  | x :: xs, i + 1 => by
    show f x :: (xs.eraseIdx i).map f = f x :: (xs.map f).eraseIdx i
    rw [erase_map f xs i]
theorem targ_cb {te : TE} {σ : L2.St} {H : Hp} {r : List V → Hp → VK → Prop} {R : List V → Hp → Prop} (h : te σ H fun x H1 => r [x] H1 fun y H2 => R [y] H2) : tCons (tCB r (tCons te tNil)) tNil σ H R := h
theorem targ1 {te : TE} {σ : L2.St} {H : Hp} {v : V} {R : List V → Hp → Prop} (h : Gv te σ H v) (k : ∀ H1, Same H H1 → R [v] H1) : tCons te tNil σ H R := (ga_1 h) _ k
/-- the tiles so far -/
structure TL (K : PySem.W.Frag) (n : Nat) (H0 H : Hp) (T : Addr) (ts : List (List Int)) (us : List V) (b l : Nat) : Prop where
  same : Same H0 H
  new : H0 T = none
  at_ : H T = some (.lst us)
  reps : Reps K (Hm T H) (ts.map tupI) us
  ok : ∀ t ∈ ts, TileOk n t
  cnt : ts.countP nonc ≤ b
  len : ts.length ≤ l
theorem TL.more {n : Nat} {H0 H H' : Hp} {T : Addr} {ts : List (List Int)} {us : List V} {b l : Nat} (h : TL K n H0 H T ts us b l) (s : Same H H') : TL K n H0 H' T ts us b l := ⟨h.same.trans s, h.new, s _ _ h.at_, h.reps.same s.hm, h.ok, h.cnt, h.len⟩
theorem TL.us_len {n : Nat} {H0 H : Hp} {T : Addr} {ts : List (List Int)} {us : List V} {b l : Nat} (h : TL K n H0 H T ts us b l) : us.length = ts.length := by rw [h.reps.length, List.length_map]
def sp_system (K : PySem.W.Frag) : Sp := fun vs H Q _ => ∃ (a : Addr) (ns : List Int) (k : Int) (m : Nat), vs = [.ref a, .int k, .int m] ∧ SqL K H a (ns.map V.int) ∧ ns.length ≤ 63 ∧ 1 ≤ m ∧ m ≤ 3 ∧
  ∀ (r T : Addr) (H' : Hp) (x : Str) (ts : List (List Int)) (ws : List V), H r = none → H T = none → Same H H' → H' r = some (.tup [.str x, .ref T]) → H' T = some (.lst ws) → Reps K H' (ts.map tupI) ws → Sys m x ts → Q (.ref r) H'
theorem gv_mix {E : XK} {σ : L2.St} {H Hx : Hp} {tt : TA} {a : Addr} {ns : List Int} {k : Int} (hS : SqL K H a (ns.map V.int)) (hl : ns.length ≤ 63) (sx : Same H Hx) (hg : Ga tt σ Hx [.ref a, .int k]) : Gv (tCall (sp_mix K) [] E tt) σ Hx (.int (mix ns k)) :=
  gv_call hg fun H' R s kk => ⟨a, ns, _, rfl, (sx.trans s).seq hS, hl, kk⟩
theorem sc__law_system : FnScope ["_law_script", "_law_k", "_law_marks", "_law_many", "_law_letters", "_law_tiles_here", "_law_j", "_law_high", "_law_wide", "_law_rows", "_law_y", "_law_number"] ["_law_script", "_law_k", "_law_marks"] (defScope s__law_system) := ⟨rfl, rfl, rfl, by decide +kernel, rfl, by decide +kernel, by decide +kernel⟩
theorem ok__law_system (T : Txt K mg t) : FnOk P w K mg base CX0 4 t.f__law_system t.d__law_system ["_law_script", "_law_k", "_law_marks"] (sp_system K) := by
  have G__law_mix : FnOk P w K mg base CX0 2 t.f__law_mix t.d__law_mix ["_law_script", "_law_k"] (sp_mix K) := ok__law_mix T
  have G__law_tiles : FnOk P w K mg base CX0 1 t.f__law_tiles t.d__law_tiles ["_law_rows"] (sp_tiles K) := ok__law_tiles T
  refine T._law_system.fn.ok sc__law_system (fun vs H Q E h => ?_) (fun cdv A outer s H vs Q E hr h => ?_)
  · obtain ⟨a, ns, k, m, rfl, _⟩ := h
    rfl
  obtain ⟨a, ns, k, m, rfl, hS, hl, hm1, hm3, kk⟩ := h
  refine ⟨_, (pss_cons (ps_set (i := 3) sc__law_system.nd rfl (by first | exact Or.inl rfl | exact Or.inr rfl) (pe_op op_add pe_int (pe_op op_mod (pe_callD T._law_mix G__law_mix (hr.mono (by first | decide | omega)) pass0 (pa_cons (pv 0) (pa_cons (pv 1) pa_nil))) (pv 2)))) (pss_cons (ps_set (i := 4) sc__law_system.nd rfl (by first | exact Or.inl rfl | exact Or.inr rfl) (kBm K PySem.F.plainAttrs_str PySem.F.slot_str_join PySem.F.type_str_join (kJoin K) pe_str (pa_cons (pe_comp (N' := ["_law_j", "_law_script", "_law_k"]) (ix := [none, some 0, some 1]) (compScope_of (by kernel_rfl)) rfl (pi_range1 rfl T.n_range (pa_cons (pv 3) pa_nil)) (fun _ _ _ _ => (pg_name (i := 0) (show List.Nodup (["_law_j", "_law_script", "_law_k"] : List Str) from by decide +kernel) rfl (by first | exact Or.inl rfl | exact Or.inr rfl))) (fun _ _ _ _ => pf_nil) (fun _ _ _ _ => (pe_ix ix_str pe_str (pe_op op_mod (pe_op op_fdiv (pe_callD T._law_mix G__law_mix (hr.mono (by first | decide | omega)) pass0 (pa_cons (pv 1) (pa_cons (pe_op op_add (pe_op op_add (pv 2) pe_int) (pv 0)) pa_nil))) pe_int) pe_int) (fun _ _ => rfl)))) pa_nil))) (pss_cons (ps_set (i := 5) sc__law_system.nd rfl (by first | exact Or.inl rfl | exact Or.inr rfl) (pe_lst pa_nil)) (pss_cons (ps_for PassesOwn.never rfl (pi_range1 rfl T.n_range (pa_cons (pe_op op_add pe_int (pe_op op_mod (pe_callD T._law_mix G__law_mix (hr.mono (by first | decide | omega)) pass0 (pa_cons (pv 0) (pa_cons (pe_op op_add (pv 1) pe_int) pa_nil))) pe_int)) pa_nil)) (pg_name (i := 6) sc__law_system.nd rfl (by first | exact Or.inl rfl | exact Or.inr rfl)) (pss_cons (ps_set (i := 7) sc__law_system.nd rfl (by first | exact Or.inl rfl | exact Or.inr rfl) (pe_op op_add pe_int (pe_op op_mod (pe_callD T._law_mix G__law_mix (hr.mono (by first | decide | omega)) pass0 (pa_cons (pv 0) (pa_cons (pe_op op_add (pe_op op_add (pv 1) pe_int) (pe_op op_mul pe_int (pv 6))) pa_nil))) pe_int))) (pss_cons (ps_set (i := 8) sc__law_system.nd rfl (by first | exact Or.inl rfl | exact Or.inr rfl) (pe_op op_add pe_int (pe_op op_mod (pe_callD T._law_mix G__law_mix (hr.mono (by first | decide | omega)) pass0 (pa_cons (pv 0) (pa_cons (pe_op op_add (pe_op op_add (pv 1) pe_int) (pe_op op_mul pe_int (pv 6))) pa_nil))) pe_int))) (pss_cons (ps_set (i := 9) sc__law_system.nd rfl (by first | exact Or.inl rfl | exact Or.inr rfl) (pe_lst pa_nil)) (pss_cons (ps_for PassesOwn.never rfl (pi_range1 rfl T.n_range (pa_cons (pv 7) pa_nil)) (pg_name (i := 10) sc__law_system.nd rfl (by first | exact Or.inl rfl | exact Or.inr rfl)) (pss_one (ps_expr (kBm K PySem.F.plainAttrs_list PySem.F.slot_list_append PySem.F.type_list_append mt_append (pv 9) (pa_cons (pe_comp (N' := ["_law_x", "_law_script", "_law_k", "_law_j", "_law_y", "_law_many"]) (ix := [none, some 0, some 1, some 6, some 10, some 3]) (compScope_of (by kernel_rfl)) rfl (pi_range1 rfl T.n_range (pa_cons (pv 8) pa_nil)) (fun _ _ _ _ => (pg_name (i := 0) (show List.Nodup (["_law_x", "_law_script", "_law_k", "_law_j", "_law_y", "_law_many"] : List Str) from by decide +kernel) rfl (by first | exact Or.inl rfl | exact Or.inr rfl))) (fun _ _ _ _ => pf_nil) (fun _ _ _ _ => (pe_op op_mod (pe_op op_fdiv (pe_callD T._law_mix G__law_mix (hr.mono (by first | decide | omega)) pass0 (pa_cons (pv 1) (pa_cons (pe_op op_add (pe_op op_add (pe_op op_add (pe_op op_add (pv 2) pe_int) (pe_op op_mul pe_int (pv 3))) (pe_op op_mul pe_int (pv 4))) (pv 0)) pa_nil))) pe_int) (pv 5)))) pa_nil))))) (pss_one (ps_set (i := 5) sc__law_system.nd rfl (by first | exact Or.inl rfl | exact Or.inr rfl) (pe_op op_cat (pv 5) (pe_callD T._law_tiles G__law_tiles (hr.mono (by first | decide | omega)) pass0 (pa_cons (pv 9) pa_nil)))))))))) (pss_cons (ps_for PassesOwn.never rfl (pi_range1 rfl T.n_range (pa_cons (pe_op op_mod (pe_callD T._law_mix G__law_mix (hr.mono (by first | decide | omega)) pass0 (pa_cons (pv 0) (pa_cons (pe_op op_add (pv 1) pe_int) pa_nil))) pe_int) pa_nil)) (pg_name (i := 6) sc__law_system.nd rfl (by first | exact Or.inl rfl | exact Or.inr rfl)) (pss_cons (ps_set (i := 11) sc__law_system.nd rfl (by first | exact Or.inl rfl | exact Or.inr rfl) (pe_callD T._law_mix G__law_mix (hr.mono (by first | decide | omega)) pass0 (pa_cons (pv 0) (pa_cons (pe_op op_add (pe_op op_add (pv 1) pe_int) (pv 6)) pa_nil)))) (pss_one (ps_if (PW.pt (pw_and (pt_cmpR op_eq (pe_op op_mod (pv 11) pe_int) pe_int (nomark _)) (pw_and1 (kTruth K (pv 5) (fun _ => rfl))))) (pss_one (ps_expr (kBm K PySem.F.plainAttrs_list PySem.F.slot_list_pop PySem.F.type_list_pop mt_popAt (pv 5) (pa_cons (pe_op op_mod (pe_op op_fdiv (pv 11) pe_int) (pe_callB (kLen K) (by rfl) T.n_len boot_len (pa_cons (pv 5) pa_nil))) pa_nil)))) (pss_one (ps_expr (kBm K PySem.F.plainAttrs_list PySem.F.slot_list_append PySem.F.type_list_append mt_append (pv 5) (pa_cons (pe_callTy (kTuple K) (by rfl) T.n_tuple boot_tuple (pa_cons (pe_comp (N' := ["_law_i", "_law_number", "_law_many"]) (ix := [none, some 11, some 3]) (compScope_of (by kernel_rfl)) rfl (pi_range1 rfl T.n_range (pa_cons pe_int pa_nil)) (fun _ _ _ _ => (pg_name (i := 0) (show List.Nodup (["_law_i", "_law_number", "_law_many"] : List Str) from by decide +kernel) rfl (by first | exact Or.inl rfl | exact Or.inr rfl))) (fun _ _ _ _ => pf_nil) (fun _ _ _ _ => (pe_op op_sub (pe_op op_mod (pe_op op_fdiv (pv 1) (pe_ix (kIxL K) (pe_lst (pa_cons pe_int (pa_cons pe_int (pa_cons pe_int (pa_cons pe_int pa_nil))))) (pv 0) (fun _ _ => rfl))) (pe_op op_add (pv 2) pe_int)) pe_int))) pa_nil)) pa_nil)))))))) (pss_one (ps_ret (pe_tup (pa_cons (pv 4) (pa_cons (pe_callB (kSorted K P w) (by rfl) T.n_sorted boot_sorted (pa_cons (pe_callTy (kSet K P w hr.units) (by rfl) T.n_set boot_set (pa_cons (pv 5) pa_nil)) pa_nil)) pa_nil)))))))))), ?_⟩
  -- many
  have hm0 := mix_nn ns k
  obtain ⟨n, hn⟩ : ∃ n : Nat, 1 + mix ns k % (m : Int) = (n : Int) := ⟨(1 + mix ns k % (m : Int)).toNat, by
    have := Int.emod_nonneg (mix ns k) (show (m : Int) ≠ 0 by omega)
    omega⟩
  have hn1 : 1 ≤ n := by
    have := Int.emod_nonneg (mix ns k) (show (m : Int) ≠ 0 by omega)
    omega
  have hnm : n ≤ m := by
    have := Int.emod_lt_of_pos (mix ns k) (show (0 : Int) < m by omega)
    omega
  refine rq_set (gv_eq (gv_ii gv_c fun H1 s1 => gv_iic (gv_mix hS hl s1 (ga_cons (gv_var (by rfl)) fun _ _ => ga_1 (gv_var (by rfl)))) (fun _ _ => gv_var (by rfl)) (by show (0 : Int) < m; omega)) (y := .int (n : Int)) (congrArg V.int hn)) fun H1 s1 => ?_
  -- letters
  refine rq_set' ⟨rfl, ?_⟩
  refine tcompR (ga_1 (gv_var (by rfl))) (by omega) (by omega) fun H2 s2 => ?_
  have s02 := s1.trans s2
  refine comp_range_map (fun j => .str (one1 (if mix ns (k + 1 + (0 + (j : Int))) / 4 % 2 = 0 then 97 else 98))) (small (by omega)) (fun j H3 R hj s3 k3 => ?_) fun D H3 hD s3 hDl => ?_
  · have hmj := mix_nn ns (k + 1 + (0 + (j : Int)))
    refine gv_to (gv_ixS gv_c (fun H4 s4 => gv_iic (gv_iic (gv_mix hS hl (s02.trans (s3.trans s4)) (ga_cons (gv_var (by rfl)) fun _ _ => ga_1 (gv_ii (gv_ii (gv_var (by rfl)) fun _ _ => gv_c) fun _ _ => gv_var (by rfl)))) (fun _ _ => gv_c) ⟨by decide, by decide⟩) (fun _ _ => gv_c) (by decide)) (by show 2 ≤ sizeLine; decide) ?_) fun H4 s4 => k3 H4 s4
    generalize mix ns (k + 1 + (0 + (j : Int))) / 4 = z
    rcases (show z % 2 = 0 ∨ z % 2 = 1 by omega) with e | e <;> rw [e] <;> rfl
  generalize hcs : (List.range (n : Int).toNat).map (fun (j : Nat) => (if mix ns (k + 1 + (0 + (j : Int))) / 4 % 2 = 0 then 97 else 98 : Nat)) = cs
  have hDl' : H3 D = some (.lst ((cs.map one1).map V.str)) := by
    rw [hDl, ← hcs, List.map_map, List.map_map]
    rfl
  have hcl : cs.length = n := by rw [← hcs]; simp
  have hcab : ∀ c ∈ cs, c = 97 ∨ c = 98 := fun c hc => by
    rw [← hcs] at hc
    obtain ⟨j, _, rfl⟩ := List.mem_map.mp hc
    split
    · exact .inl rfl
    · exact .inr rfl
  refine ⟨"", D, cs.map one1, rfl, rfl, SqL.of hDl', by rw [len_ones, List.length_map]; show cs.length + cs.length * 0 ≤ 16777216; omega, ?_⟩
  have hxc := join_cps cs
  generalize Txt.join "" (cs.map one1) = x at *
  have hxl : x.length = n := by
    show x.cps.size = n
    have := congrArg List.length hxc
    simpa [hcl] using this
  have s03 := s02.trans s3
  refine rq_set' ⟨(by show 0 ≤ sizeLine; decide), fun T0 hT0 => ?_⟩
  have mod3 : ∀ z : Int, ∃ c : Nat, 1 + z % 3 = (c : Int) ∧ 1 ≤ c ∧ c ≤ 3 := fun z => ⟨(1 + z % 3).toNat, by omega, by omega, by omega⟩
  obtain ⟨c1, hc1, hc1l, hc1u⟩ := mod3 (mix ns (k + 6))
  have hsT : Same H (upd H3 T0 (.lst [])) := s03.trans (Same.new hT0 _)
  refine rq_forR (n := c1) (ga_1 (gv_eq (gv_ii gv_c fun H4 s4 => gv_iic (gv_mix hS hl (hsT.trans s4) (ga_cons (gv_var (by rfl)) fun _ _ => ga_1 (gv_ii (gv_var (by rfl)) fun _ _ => gv_c))) (fun _ _ => gv_c) (by decide)) (congrArg V.int hc1))) (by omega)
    (fun i σ H4 => ∃ (T1 : Addr) (us : List V) (ts : List (List Int)) (e6 e7 e8 e9 e10 e11 : Option V), σ = [some (.ref a), some (.int k), some (.int m), some (.int n), some (.str x), some (.ref T1), e6, e7, e8, e9, e10, e11] ∧ TL K n H3 H4 T1 ts us (12 * i) (16 * i))
    (fun H4 s4 => ⟨T0, [], [], none, none, none, none, none, none, rfl, (Same.new hT0 _).trans s4, hT0, s4 _ _ upd_same, by show Reps K _ [] []; unfold Reps; rfl, fun t ht => (by cases ht), Nat.le_refl _, Nat.le_refl _⟩) ?_ ?_
  · rintro i σ H4 hi ⟨T1, us, ts, e6, e7, e8, e9, e10, e11, rfl, L4⟩
    have h04 := s03.trans L4.same
    obtain ⟨hg, hhg, hg1, hg3⟩ := mod3 (mix ns (k + 7 + 30 * (i : Int)))
    obtain ⟨wd, hwd, wd1, wd3⟩ := mod3 (mix ns (k + 8 + 30 * (i : Int)))
    refine rq_set (gv_eq (gv_ii gv_c fun H5 s5 => gv_iic (gv_mix hS hl (h04.trans s5) (ga_cons (gv_var (by rfl)) fun _ _ => ga_1 (gv_ii (gv_ii (gv_var (by rfl)) fun _ _ => gv_c) fun _ _ => gv_iic gv_c (fun _ _ => gv_var (by rfl)) (.inl ⟨by decide, by decide⟩)))) (fun _ _ => gv_c) (by decide)) (y := .int (hg : Int)) (congrArg V.int hhg)) fun H5 s5 => ?_
    refine rq_set (gv_eq (gv_ii gv_c fun H6 s6 => gv_iic (gv_mix hS hl (h04.trans (s5.trans s6)) (ga_cons (gv_var (by rfl)) fun _ _ => ga_1 (gv_ii (gv_ii (gv_var (by rfl)) fun _ _ => gv_c) fun _ _ => gv_iic gv_c (fun _ _ => gv_var (by rfl)) (.inl ⟨by decide, by decide⟩)))) (fun _ _ => gv_c) (by decide)) (y := .int (wd : Int)) (congrArg V.int hwd)) fun H6 s6 => ?_
    have L6 := L4.more (s5.trans s6)
    have h06 := s03.trans L6.same
    refine rq_set' ⟨(by show 0 ≤ sizeLine; decide), fun R hR => ?_⟩
    refine rq_forR (n := hg) (ga_1 (gv_var (by rfl))) (by omega)
      (fun y σ H7 => ∃ (rws : List (List Int)) (vs : List V) (e10 : Option V), σ = [some (.ref a), some (.int k), some (.int m), some (.int n), some (.str x), some (.ref T1), some (.int (i : Int)), some (.int (hg : Int)), some (.int (wd : Int)), some (.ref R), e10, e11] ∧ Same H6 H7 ∧ H7 R = some (.lst vs) ∧ Reps K (Hm R H7) (rws.map lstI) vs ∧ rws.length = y ∧ ∀ r ∈ rws, r.length = wd ∧ ∀ f ∈ r, 0 ≤ f ∧ f < n)
      (fun H7 s7 => ⟨[], [], _, rfl, (Same.new hR _).trans s7, s7 _ _ upd_same, by show Reps K _ [] []; unfold Reps; rfl, rfl, fun r hr => (by cases hr)⟩) ?_ ?_
    · rintro y σ H7 hy ⟨rws, vs, e10, rfl, s7, hR7, rR7, hrl, hrw⟩
      refine ⟨_, rfl, .inl ⟨rfl, _, SqL.of hR7⟩, ?_⟩
      refine tcompR (ga_1 (gv_var (by rfl))) (by omega) (by omega) fun H8 s8 => ?_
      refine comp_range_map (fun j => .int (mix ns (k + 9 + 30 * (i : Int) + 3 * (y : Int) + (0 + (j : Int))) / 8 % n)) (small (by omega)) (fun j H9 R' hj s9 k9 => ?_) fun D' H9 hD' s9 hDl' => ?_
      · exact gv_to (gv_iic (gv_iic (gv_mix hS hl (h06.trans (s7.trans (s8.trans s9))) (ga_cons (gv_var (by rfl)) fun _ _ => ga_1 (gv_ii (gv_ii (gv_ii (gv_ii (gv_var (by rfl)) fun _ _ => gv_c) fun _ _ => gv_iic gv_c (fun _ _ => gv_var (by rfl)) (.inl ⟨by decide, by decide⟩)) fun _ _ => gv_iic gv_c (fun _ _ => gv_var (by rfl)) (.inl ⟨by decide, by decide⟩)) fun _ _ => gv_var (by rfl)))) (fun _ _ => gv_c) ⟨by decide, by decide⟩) (fun _ _ => gv_var (by rfl)) (by show (0 : Int) < n; omega)) fun H10 s10 => k9 H10 s10
      generalize hrow : (List.range (wd : Int).toNat).map (fun (j : Nat) => mix ns (k + 9 + 30 * (i : Int) + 3 * (y : Int) + (0 + (j : Int))) / 8 % (n : Int)) = row
      have hDr : H9 D' = some (.lst (row.map V.int)) := by rw [hDl', ← hrow, List.map_map]; rfl
      have hrowl : row.length = wd := by rw [← hrow]; simp
      have hrowi : ∀ f ∈ row, 0 ≤ f ∧ f < n := fun f hf => by
        rw [← hrow] at hf
        obtain ⟨j, _, rfl⟩ := List.mem_map.mp hf
        exact ⟨Int.emod_nonneg _ (by omega), Int.emod_lt_of_pos _ (by omega)⟩
      have s79 := s8.trans s9
      have ne : D' ≠ R := fun z => by rw [z] at hD'; rw [s8 _ _ hR7] at hD'; cases hD'
      refine ⟨R, vs, _, rfl, rfl, s79 _ _ hR7, ?_, rws ++ [row], vs ++ [.ref D'], _, rfl, (s7.trans s79).put hR _, upd_same, ?_, by simp [hrl], fun r hr => ?_⟩
      · rw [rR7.length, List.length_map]
        exact Nat.lt_of_le_of_lt (show rws.length ≤ 1000 by omega) (by decide)
      · rw [List.map_append]
        refine Reps.snoc (rep_lstI.mpr ⟨D', rfl, SqL.of ?_⟩) (rR7.same (s79.hm_upd _))
        rw [hm_ne ne, upd_ne ne]
        exact hDr
      · rcases List.mem_append.mp hr with z | z
        · exact hrw r z
        · rw [List.mem_singleton.mp z]; exact ⟨hrowl, hrowi⟩
    · rintro σ H7 ⟨rws, vs, e10, rfl, s7, hR7, rR7, hrl, hrw⟩
      have hne : rws ≠ [] := fun z => by rw [z] at hrl; simp at hrl; omega
      have hwid : wid rws = wd := by
        cases rws with
        | nil => exact absurd rfl hne
        | cons r0 rr => exact (hrw r0 List.mem_cons_self).1
      have hmk : Marks n rws := ⟨hne, by omega, by omega, fun r hr => by rw [hwid]; exact (hrw r hr).1, fun r hr => (hrw r hr).2⟩
      have L7 := L6.more s7
      refine ⟨_, rfl, tcall (ga_1 (gv_var (by rfl))) fun H8 s8 => ⟨R, rws, rfl, ?_, hne, hmk.rect, by omega, by omega, fun F H9 ws hF s9 hF9 rF => ?_⟩⟩
      · unfold Rep
        exact ⟨R, vs, rfl, SqL.of (s8 _ _ hR7), rR7.same (hm_out.trans s8)⟩
      · have L9 := L7.more (s8.trans s9)
        obtain ⟨g1, g2⟩ := grid_few (by omega) hmk
        refine ⟨T1, F, us, ws, rfl, rfl, L9.at_, hF9, ?_, fun q hq => ?_⟩
        · rw [L9.us_len, rF.length, List.length_map]
          have := L9.len
          exact small (by omega)
        · have sq : Same H9 (Hm q (upd H9 q (.lst (us ++ ws)))) := (Same.new hq _).into hq
          refine ⟨q, us ++ ws, ts ++ grid rws, _, _, _, _, _, _, rfl, L9.same.trans (Same.new hq _), L9.same.free hq, upd_same, ?_, fun t' ht => ?_, ?_, ?_⟩
          · rw [List.map_append]
            exact Reps.append (L9.reps.same (hm_out.trans sq)) (rF.same (hm_out.trans sq))
          · rcases List.mem_append.mp ht with z | z
            · exact L9.ok t' z
            · exact grid_ok hmk t' z
          · rw [List.countP_append]
            have := L9.cnt
            omega
          · rw [List.length_append]
            have := L9.len
            omega
  · rintro σ H4 ⟨T1, us, ts, e6, e7, e8, e9, e10, e11, rfl, L4⟩
    have h04 := s03.trans L4.same
    obtain ⟨c2, hc2, hc2u⟩ : ∃ c : Nat, mix ns (k + 100) % 4 = (c : Int) ∧ c ≤ 3 := ⟨(mix ns (k + 100) % 4).toNat, by omega, by omega⟩
    refine rq_forR (n := c2) (ga_1 (gv_eq (gv_iic (gv_mix hS hl h04 (ga_cons (gv_var (by rfl)) fun _ _ => ga_1 (gv_ii (gv_var (by rfl)) fun _ _ => gv_c))) (fun _ _ => gv_c) (by decide)) (congrArg V.int hc2))) (by omega)
      (fun j σ H5 => ∃ (us : List V) (ts : List (List Int)) (e6 e7 e8 e9 e10 e11 : Option V), σ = [some (.ref a), some (.int k), some (.int m), some (.int n), some (.str x), some (.ref T1), e6, e7, e8, e9, e10, e11] ∧ TL K n H3 H5 T1 ts us (36 + j) (48 + j))
      (fun H5 s5 => ⟨us, ts, _, _, _, _, _, _, rfl, by
        have L5 := L4.more s5
        have h1 := L5.cnt
        have h2 := L5.len
        exact ⟨L5.same, L5.new, L5.at_, L5.reps, L5.ok, by omega, by omega⟩⟩) ?_ ?_
    · rintro j σ H5 hj ⟨us, ts, e6, e7, e8, e9, e10, e11, rfl, L5⟩
      have h05 := s03.trans L5.same
      refine rq_set (gv_mix hS hl h05 (ga_cons (gv_var (by rfl)) fun _ _ => ga_1 (gv_ii (gv_ii (gv_var (by rfl)) fun _ _ => gv_c) fun _ _ => gv_var (by rfl)))) fun H6 s6 => ?_
      have hz0 := mix_nn ns (k + 101 + (j : Int))
      generalize mix ns (k + 101 + (j : Int)) = z at *
      have L6 := L5.more s6
      refine rs_if2 (gt_and (gt_test (gv_eqI (gv_iic (gv_var (by rfl)) (fun _ _ => gv_c) (by decide)) (fun _ _ => gv_c) (by rfl))) fun _ H7 s7 => gt_truthL (K := K) (gv_var (by rfl)) (SqL.of (s7 _ _ L6.at_))) (fun c H7 s7 => ?_) fun c H7 s7 => ?_
      · have L7 := L6.more s7
        have hne : us ≠ [] := fun e => by rw [e] at c; simp at c
        have hpos : 0 < us.length := List.length_pos_iff.mpr hne
        have hm1 := Int.emod_nonneg (z / 4) (show (us.length : Int) ≠ 0 by omega)
        have hm2 := Int.emod_lt_of_pos (z / 4) (show (0 : Int) < us.length by omega)
        obtain ⟨q, hq⟩ : ∃ q : Nat, z / 4 % (us.length : Int) = (q : Int) := ⟨(z / 4 % (us.length : Int)).toNat, by omega⟩
        have hql : q < us.length := by omega
        refine ⟨_, rfl, .inl ⟨rfl, _, SqL.of L7.at_⟩, ?_⟩
        refine targ1 (v := .int (q : Int)) (gv_eq (gv_iic (gv_iic (gv_var (by rfl)) (fun _ _ => gv_c) ⟨by decide, by decide⟩) (fun H8 s8 => gv_lenL (K := K) (ga_1 (gv_var (by rfl))) (SqL.of (s8 _ _ L7.at_))) (by show (0 : Int) < us.length; omega)) (congrArg V.int hq)) fun H8 s8 => ?_
        have L8 := L7.more s8
        have hus := L8.us_len
        have hlen := L8.len
        refine ⟨T1, us, (q : Int), q, us[q], rfl, rfl, L8.at_, by omega, by omega, ?_, List.getElem?_eq_getElem hql, us.eraseIdx q, ts.eraseIdx q, _, _, _, _, _, _, rfl, L8.same.put L8.new _, L8.new, upd_same, ?_, fun t' ht => L8.ok t' (List.mem_of_mem_eraseIdx ht), ?_, ?_⟩
        · have := seqIndex_of (show (0 : Int) ≤ (q : Int) by omega) (show (q : Int) < (us.length : Int) by omega)
          simpa using this
        · rw [erase_map]
          exact (L8.reps.erase q).same ((Same.refl H8).hm_upd _)
        · have := (List.eraseIdx_sublist ts q).countP_le (p := nonc)
          have := L8.cnt
          omega
        · have := List.length_eraseIdx_le ts q
          omega
      · have L7 := L6.more s7
        have hn1' : (0 : Int) < (n : Int) + 1 := by omega
        refine ⟨_, rfl, .inl ⟨rfl, _, SqL.of L7.at_⟩, ?_⟩
        refine targ_cb ?_
        refine tcompR (jj := 4) (ga_1 gv_c) (by decide) (by decide) fun H8 s8 => ?_
        refine comp_range_map (fun i => .int (z / (([4, 64, 1024, 16384] : List Int).getD i 1) % ((n : Int) + 1) - 1)) (small (by decide)) (fun i H9 R9 hi9 s9 k9 => ?_) fun D' H9 hD' s9 hDl' => ?_
        · have hi4 : i < 4 := hi9
          have hpw : atI [V.int 4, .int 64, .int 1024, .int 16384] (0 + (i : Int)) = some (.int (([4, 64, 1024, 16384] : List Int).getD i 1)) ∧ 0 < ([4, 64, 1024, 16384] : List Int).getD i 1 ∧ ([4, 64, 1024, 16384] : List Int).getD i 1 < 1073741824 := by
            rw [Int.zero_add]
            rcases (show i = 0 ∨ i = 1 ∨ i = 2 ∨ i = 3 by omega) with rfl | rfl | rfl | rfl
            · exact ⟨rfl, by decide, by decide⟩
            · exact ⟨rfl, by decide, by decide⟩
            · exact ⟨rfl, by decide, by decide⟩
            · exact ⟨rfl, by decide, by decide⟩
          exact gv_to (gv_ii (gv_iic (gv_iic (gv_var (by rfl)) (fun _ _ => gv_ixN (K := K) (gn_lst (ga_cons gv_c fun _ _ => ga_cons gv_c fun _ _ => ga_cons gv_c fun _ _ => ga_1 gv_c) (by show 4 ≤ sizeLine; decide)) (fun _ _ => gv_var (by rfl)) hpw.1) hpw.2) (fun _ _ => gv_ii (gv_var (by rfl)) fun _ _ => gv_c) hn1') fun _ _ => gv_c) fun H10 s10 => k9 H10 s10
        generalize htl : (List.range (4 : Int).toNat).map (fun (i : Nat) => z / (([4, 64, 1024, 16384] : List Int).getD i 1) % ((n : Int) + 1) - 1) = tl
        have hDt : H9 D' = some (.lst (tl.map V.int)) := by rw [hDl', ← htl, List.map_map]; rfl
        have tok : TileOk n tl := by
          refine ⟨by rw [← htl]; rfl, fun f hf => ?_⟩
          rw [← htl] at hf
          obtain ⟨i, _, rfl⟩ := List.mem_map.mp hf
          have h1 := Int.emod_nonneg (z / (([4, 64, 1024, 16384] : List Int).getD i 1)) (show (n : Int) + 1 ≠ 0 by omega)
          have h2 := Int.emod_lt_of_pos (z / (([4, 64, 1024, 16384] : List Int).getD i 1)) hn1'
          constructor <;> omega
        refine ⟨D', _, rfl, .inl ⟨SqL.of hDt, fun p hp => ?_⟩⟩
        have s79 := s8.trans s9
        have L9 := L7.more (s79.trans (Same.new hp (.tup (tl.map V.int))))
        have ne : p ≠ T1 := fun e => by rw [e, s79 _ _ L7.at_] at hp; cases hp
        refine ⟨T1, us, _, rfl, rfl, L9.at_, ?_, us ++ [.ref p], ts ++ [tl], _, _, _, _, _, _, rfl, L9.same.put L9.new _, L9.new, upd_same, ?_, fun t' ht => ?_, ?_, ?_⟩
        · rw [L9.us_len]
          have := L9.len
          exact Nat.lt_of_le_of_lt (show ts.length ≤ 1000 by omega) (by decide)
        · rw [List.map_append]
          refine Reps.snoc (rep_tupI.mpr ⟨p, rfl, SqT.of ?_⟩) (L9.reps.same ((Same.refl _).hm_upd _))
          rw [hm_ne ne, upd_ne ne, upd_same]
        · rcases List.mem_append.mp ht with y | y
          · exact L9.ok t' y
          · rw [List.mem_singleton.mp y]; exact tok
        · rw [List.countP_append]
          have := L9.cnt
          have := List.countP_le_length (p := nonc) (l := [tl])
          simp only [List.length_singleton] at this
          omega
        · rw [List.length_append, List.length_singleton]
          have := L9.len
          omega
    · rintro σ H5 ⟨us, ts, e6, e7, e8, e9, e10, e11, rfl, L5⟩
      have h05 := s03.trans L5.same
      obtain ⟨ps, hps, hps2, hps3⟩ := reps_tups L5.reps
      subst hps
      have hpl : ps.length ≤ 51 := by
        have h1 := L5.us_len
        have h2 := L5.len
        rw [List.length_map] at h1
        omega
      have few : TB.Few ps 51 := fun l nd hk => by
        have := TB.nodup_sub (l2 := ps.map (·.2)) nd fun y hy => by
          obtain ⟨p, hp, e⟩ := hk y hy
          exact List.mem_map.mpr ⟨p, hp, e⟩
        rw [List.length_map] at this
        omega
      have ht5 : ∀ p ∈ ps, SqT K H5 p.1 (p.2.map V.int) := fun p hp => hm_out.tup (hps3 p hp)
      have okp : ∀ p ∈ ps, TileOk n p.2 := fun p hp => L5.ok p.2 (by rw [← hps2]; exact List.mem_map.mpr ⟨p, hp, rfl⟩)
      refine ⟨_, rfl, _, rfl, T1, ps, rfl, SqL.of L5.at_, ht5, fun l nd hk => Nat.le_trans (few l nd hk) (by decide), fun S qs hSn m1 m2 nd => ?_⟩
      have sS := Same.new hSn (setO P w S qs)
      have hql : qs.length ≤ 51 := few.ps nd m1
      refine ⟨S, qs, rfl, upd_same, fun p hp => sS.tup (ht5 p (m1 p hp)), fun p hp => ?_, by omega, fun l rs hln pm pw => ⟨(by show 2 ≤ sizeLine; decide), fun r hrn => ?_⟩⟩
      · have := (okp p (m1 p hp)).1
        intro e
        rw [e] at this
        cases this
      · have sl := Same.new hln (.lst (rs.map rv))
        have sr := Same.new hrn (.tup [V.str x, .ref l])
        have all := h05.trans (sS.trans (sl.trans sr))
        have mem : ∀ p ∈ rs, p ∈ ps := fun p hp => m1 p (pm.mem_iff.mp hp)
        refine kk r l _ x (rs.map (·.2)) (rs.map rv) ((h05.trans (sS.trans sl)).free hrn) ((h05.trans sS).free hln) all upd_same (sr _ _ upd_same) (tups_reps rs fun p hp => (sS.trans (sl.trans sr)).tup (ht5 p (mem p hp))) ⟨by omega, by omega, fun c hc => hcab c (by rw [← hxc]; exact hc), fun t' ht => ?_, List.pairwise_map.mpr pw, ?_⟩
        · obtain ⟨p, hp, rfl⟩ := List.mem_map.mp ht
          rw [hxl]
          exact okp p (mem p hp)
        · have h1 : (ts.countP nonc) ≤ 36 + c2 := L5.cnt
          have nd2 : (rs.map (·.2)).Nodup := (pm.map _).nodup_iff.mpr nd
          rw [List.countP_eq_length_filter] at h1 ⊢
          have := TB.nodup_sub (l1 := (rs.map (·.2)).filter nonc) (l2 := ts.filter nonc) (show (List.filter nonc (rs.map (·.2))).Nodup from List.Pairwise.filter _ nd2) fun y hy => by
            obtain ⟨hy1, hy2⟩ := List.mem_filter.mp hy
            obtain ⟨p, hp, rfl⟩ := List.mem_map.mp hy1
            exact List.mem_filter.mpr ⟨by rw [← hps2]; exact List.mem_map.mpr ⟨p, mem p hp, rfl⟩, hy2⟩
          omega
end
end K02

namespace L2
open PySem PySem.Spec PyProof.Rows
section
variable {X : Cx} (K : PySem.W.Frag)
theorem kLtT (hu : X.A.units + 64 < cLine) (h : X.K = K := by rfl) : OpR X (compareOp .Lt) (rLtT K) := h ▸ op_ltT (by omega)
end
section
variable {K : PySem.W.Frag} {ix : List (Option Nat)} {te ta tb : TE} {tt : TA} {g : TG} {tf : TT} {σ : St} {H H1 : Hp} {Q : Addr → Hp → Prop} {R : VK}
theorem comp_tup_map {a : Addr} {xs : List V} {i₀ : Nat} (f : V → V) (hq : SqT K H1 a xs) (hz : xs.length ≤ sizeLine)
    (hs : ∀ (i : Nat) (x : V) (H : Hp) (R : VK), xs[i]? = some x → Same H1 H → (∀ H6, Same H H6 → R (f x) H6) → te ((capt ix σ).set i₀ (some x)) H R)
    (hd : ∀ D H, H1 D = none → Same H1 H → H D = some (.lst (xs.map f)) → Q D H) : CompW (Itt K a) ix (gName i₀) tYes te σ H1 Q := by
  intro D hD
  refine ⟨fun i m ys H => m = xs.length - i ∧ i ≤ xs.length ∧ Same H1 H ∧ ys = (xs.take i).map f, ⟨xs.length, by simp, Nat.zero_le _, Same.new hD _, by simp⟩, ?_⟩
  rintro i m ys H ⟨rfl, hi, sm, p⟩ hDl
  have q := sm.tup hq
  by_cases hlt : i < xs.length
  · refine .inr ⟨⟨xs, xs[i], q, by simp [hlt]⟩, fun x H3 y => ?_⟩
    obtain ⟨e, y⟩ := y
    subst e
    have hx := y xs q
    show te ((capt ix σ).set i₀ (some x)) _ _
    refine hs i x _ _ hx sm fun H6 r1 => ?_
    refine ⟨r1 _ _ hDl, ?_, xs.length - (i + 1), by omega, rfl, hlt, (sm.trans r1).put hD _, ?_⟩
    · rw [p, List.length_map, List.length_take]; omega
    · rw [take_map_succ f xs i x hx, p]
  · have e : i = xs.length := by omega
    subst e
    refine .inl ⟨⟨xs, q, Nat.le_refl _⟩, hd D H hD sm ?_⟩
    rw [hDl, p, List.take_length]
theorem tcompT {a : Addr} {xs : List V} (h : Gv ta σ H (.ref a)) (hq : SqT K H a xs) (k : ∀ H', Same H H' → SqT K H' a xs → CompW (Itt K a) ix g tf te σ H' fun D' H2 => R (.ref D') H2) : tComp (iTup K ta) ix g tf te σ H R := h _ fun H' s => ⟨a, rfl, ⟨xs, s.tup hq⟩, k H' s (s.tup hq)⟩
theorem tcompR2 {i j : Int} (h : Ga tt σ H [.int i, .int j]) (hb : -(2 ^ 62) ≤ i ∧ i < 2 ^ 62 ∧ -(2 ^ 62) ≤ j ∧ j < 2 ^ 62) (k : ∀ H', Same H H' → CompW (Itr i (j - i).toNat) ix g tf te σ H' fun D' H2 => R (.ref D') H2) : tComp (iRng2 tt) ix g tf te σ H R := h _ fun H' s => ⟨i, j, rfl, hb, k H' s⟩
theorem gv_lenT {a : Addr} {xs : List V} (h : Ga tt σ H [.ref a]) (hq : SqT K H a xs) : Gv (tCB (fun xs H Q => ∃ x n, xs = [x] ∧ LenV K x H n ∧ Q (.int n) H) tt) σ H (.int xs.length) := gv_len h fun _ s => .inr ⟨xs, s.tup hq, rfl⟩
theorem gv_ixT {a : Addr} {xs : List V} {i : Int} {v : V} (h : Gv ta σ H (.ref a)) (g : ∀ H', Same H H' → Gv tb σ H' (.int i)) (hq : SqT K H a xs) (hi : atI xs i = some v) : Gv (tOp (rIxT K) ta tb) σ H v := fun R r => h _ fun H' s => g H' s _ fun H2 s2 => ⟨a, xs, i, v, rfl, rfl, (s.trans s2).tup hq, hi, r H2 (s.trans s2)⟩
theorem gv_ltT {a b : Addr} {x y : List Int} (h : Gv ta σ H (.ref a)) (g : ∀ H', Same H H' → Gv tb σ H' (.ref b)) (ha : SqT K H a (x.map V.int)) (hb : SqT K H b (y.map V.int)) : Gv (tOp (rLtT K) ta tb) σ H (.bl (HT.lexLt x y)) := fun R r => h _ fun H1 s1 => g H1 s1 _ fun H2 s2 => ⟨a, b, x, y, rfl, rfl, (s1.trans s2).tup ha, (s1.trans s2).tup hb, r H2 (s1.trans s2)⟩
end
end L2

set_option maxHeartbeats 1000000
namespace K02
open PySem PySem.Spec PyProof.Rows L2
abbrev abcd : Str := "abcd"
def isL (c : Nat) : Bool := decide (c ∈ abcd.cps.toList)
def lettersOk (x : Str) : Bool := x.cps.toList.all isL
def sp_are_letters : Sp := fun vs H Q _ => ∃ x : Str, vs = [.str x] ∧ x.length ≤ 60 ∧ ∀ H', Same H H' → Q (.bl (lettersOk x)) H'

theorem map_getD (x : Str) : (List.range x.cps.size).map (fun i => x.cps.getD i 0) = x.cps.toList := by
  refine List.ext_getElem (by simp) fun i h1 h2 => ?_
  simp at h1
  simp [Array.getD, h1]

section
variable {P : Program} {w : World} {K : PySem.W.Frag} {mg : Str → Option Value} {base : Heap} {t : Ad}

theorem sc_are_letters : FnScope ["text"] ["text"] (defScope s_are_letters) := ⟨rfl, rfl, rfl, by decide +kernel, rfl, by decide +kernel, by decide +kernel⟩
theorem ok_are_letters (T : Txt K mg t) : FnOk P w K mg base CX0 1 t.f_are_letters t.d_are_letters ["text"] sp_are_letters := by
  refine T.are_letters.fn.ok sc_are_letters (fun vs H Q E h => ?_) (fun cdv A outer s H vs Q E hr h => ?_)
  · obtain ⟨x, rfl, _⟩ := h
    rfl
  obtain ⟨x, rfl, hl, k⟩ := h
  refine ⟨_, (pss_one (ps_ret (pe_callB (kAll K) (by rfl) T.n_all boot_all (pa_cons (pe_comp (N' := ["sign"]) (ix := [none]) (compScope_of (by kernel_rfl)) rfl (pi_str (pv 0)) (fun _ _ _ _ => (pg_name (i := 0) (show List.Nodup (["sign"] : List Str) from by decide +kernel) rfl (by first | exact Or.inl rfl | exact Or.inr rfl))) (fun _ _ _ _ => pf_nil) (fun _ _ _ _ => (pe_cmpR op_in_str (pv 0) (pe_glob rfl T.m_LETTERS T.v_LETTERS) rfl))) pa_nil)))), ?_⟩
  refine ⟨_, rfl, x, rfl, ?_⟩
  refine comp_val_map (fun i => .bl (isL (x.cps.getD i 0))) (small (by show x.length ≤ 1000; omega)) (fun i H6 R hi sm kk => ?_) fun D H6 hD sm hDl => ?_
  · refine ⟨_, rfl, _, _, rfl, rfl, ?_⟩
    rw [StrLaws.found_one]
    exact kk _ (Same.refl _)
  · refine ⟨D, (List.range x.cps.size).map (fun i => isL (x.cps.getD i 0)), rfl, SqL.of (by rw [hDl, List.map_map]; rfl), ?_⟩
    have e : (((List.range x.cps.size).map (fun i => isL (x.cps.getD i 0))).all fun b => b) = lettersOk x := by
      unfold lettersOk
      rw [← map_getD x, List.all_map, List.all_map]
      rfl
    rw [e]
    exact k _ sm

def Sm (p : List Str) : Prop := p.length ≤ 30 ∧ ∀ r ∈ p, r.length ≤ 40
def wide0 (p : List Str) : Nat := (p.headD ⟨#[]⟩).length
def rowOk (n : Nat) (r : Str) : Bool := decide (V.int r.length = V.int n) && lettersOk r
def picOk (p : List Str) : Bool := (decide ((1 : Int) ≤ p.length) && decide ((p.length : Int) ≤ 4)) && ((decide ((1 : Int) ≤ wide0 p) && decide ((wide0 p : Int) ≤ 12)) && p.all (rowOk (wide0 p)))
def sp_is_picture (K : PySem.W.Frag) : Sp := fun vs H Q _ => ∃ (a : Addr) (p : List Str), vs = [.ref a] ∧ SqL K H a (p.map V.str) ∧ Sm p ∧ ∀ H', Same H H' → Q (.bl (picOk p)) H'
theorem strs_at {p : List Str} {i : Nat} {x : V} (h : (p.map V.str)[i]? = some x) : ∃ r, x = .str r ∧ r ∈ p ∧ p[i]? = some r := by
  rw [List.getElem?_map] at h
  cases e : p[i]? with
  | none => rw [e] at h; cases h
  | some r => rw [e] at h; exact ⟨r, (Option.some.inj h).symm, List.mem_of_getElem? e, rfl⟩
/-- a function of texts upon values -/
def onS (f : Str → V) : V → V
  | .str r => f r
  | v => v
theorem map_onS (f : Str → V) (p : List Str) : (p.map V.str).map (onS f) = p.map f := by rw [List.map_map]; rfl

theorem sc_is_picture : FnScope ["rows", "wide"] ["rows"] (defScope s_is_picture) := ⟨rfl, rfl, rfl, by decide +kernel, rfl, by decide +kernel, by decide +kernel⟩
theorem ok_is_picture (T : Txt K mg t) : FnOk P w K mg base CX0 2 t.f_is_picture t.d_is_picture ["rows"] (sp_is_picture K) := by
  have G_are_letters : FnOk P w K mg base CX0 1 t.f_are_letters t.d_are_letters ["text"] sp_are_letters := ok_are_letters T
  refine T.is_picture.fn.ok sc_is_picture (fun vs H Q E h => ?_) (fun cdv A outer s H vs Q E hr h => ?_)
  · obtain ⟨a, p, rfl, _⟩ := h
    rfl
  obtain ⟨a, p, rfl, hq, hs, k⟩ := h
  have hlen : ∀ H', Same H H' → LenV K (.ref a) H' p.length := fun H' s => .inl ⟨_, s.seq hq, by simp⟩
  refine ⟨_, (pss_cons (ps_if (pt_not (pt_chain op_le op_le pe_int (pe_callB (kLen K) (by rfl) T.n_len boot_len (pa_cons (pv 0) pa_nil)) (pe_glob rfl T.m_MOST_ROWS T.v_MOST_ROWS))) (pss_one (ps_ret pe_bl)) pss_nil) (pss_cons (ps_set (i := 1) sc_is_picture.nd rfl (by first | exact Or.inl rfl | exact Or.inr rfl) (pe_callB (kLen K) (by rfl) T.n_len boot_len (pa_cons (pe_ix (kIxL K) (pv 0) pe_int (fun _ _ => rfl)) pa_nil))) (pss_cons (ps_if (pt_not (pt_chain op_le op_le pe_int (pv 1) (pe_glob rfl T.m_MOST_COLUMNS T.v_MOST_COLUMNS))) (pss_one (ps_ret pe_bl)) pss_nil) (pss_one (ps_ret (pe_callB (kAll K) (by rfl) T.n_all boot_all (pa_cons (pe_comp (N' := ["row", "wide"]) (ix := [none, some 1]) (compScope_of (by kernel_rfl)) rfl (kiList K (pv 0)) (fun _ _ _ _ => (pg_name (i := 0) (show List.Nodup (["row", "wide"] : List Str) from by decide +kernel) rfl (by first | exact Or.inl rfl | exact Or.inr rfl))) (fun _ _ _ _ => pf_nil) (fun _ _ _ _ => (pe_and (pe_cmpR op_eq (pe_callB (kLen K) (by rfl) T.n_len boot_len (pa_cons (pv 0) pa_nil)) (pv 1) (nomark _)) (pe_one (pe_callD T.are_letters G_are_letters (hr.mono (by first | decide | omega)) pass0 (pa_cons (pv 0) pa_nil)))))) pa_nil))))))), ?_⟩
  refine rs_seq (rs_if2 (gt_not (gt_test (gv_chain gv_c (fun H1 s1 => gv_len (ga_1 (gv_var (by rfl))) fun H2 s2 => hlen H2 (s1.trans s2)) fun H1 s1 => gv_c))) (fun c H1 s1 => ?_) fun c H1 s1 => rs_next ?_)
  · have e : picOk p = false := by
      unfold picOk
      rw [Bool.not_eq_true'] at c
      rw [c, Bool.false_and]
    have := k H1 s1
    rw [e] at this
    exact this
  have c' : (decide ((1 : Int) ≤ p.length) && decide ((p.length : Int) ≤ 4)) = true := by simpa using c
  cases p with
  | nil => simp at c'
  | cons r0 rs =>
    have hr0 : r0.length ≤ 40 := hs.2 r0 List.mem_cons_self
    refine rs_seq (rs_set (gv_lenS (ga_1 (gv_ixL (gv_var (by rfl)) (fun _ _ => gv_c) (s1.seq hq) (atI_zero _ _))) (small (by omega))) fun H2 s2 => ?_)
    refine rs_seq (rs_if2 (gt_not (gt_test (gv_chain gv_c (fun H3 s3 => gv_var (by rfl)) fun H3 s3 => gv_c))) (fun c2 H3 s3 => ?_) fun c2 H3 s3 => rs_next ?_)
    · have e : picOk (r0 :: rs) = false := by
        unfold picOk
        rw [Bool.not_eq_true'] at c2
        have c3 : (decide ((1 : Int) ≤ wide0 (r0 :: rs)) && decide ((wide0 (r0 :: rs) : Int) ≤ 12)) = false := c2
        rw [c3, Bool.false_and, Bool.and_false]
      have := k H3 ((s1.trans s2).trans s3)
      rw [e] at this
      exact this
    have s13 := (s1.trans s2).trans s3
    have c2' : (decide ((1 : Int) ≤ wide0 (r0 :: rs)) && decide ((wide0 (r0 :: rs) : Int) ≤ 12)) = true := by
      have z : (decide ((1 : Int) ≤ r0.length) && decide ((r0.length : Int) ≤ 12)) = true := by simpa using c2
      exact z
    refine ⟨_, rfl, a, rfl, ⟨_, s13.seq hq⟩, ?_⟩
    refine comp_list_map (onS fun r => .bl (rowOk r0.length r)) (s13.seq hq) (small (by have := hs.1; simp at this ⊢; omega)) (fun i x H4 R hx s4 kk => ?_) fun D H4 hD s4 hDl => ?_
    · obtain ⟨r, rfl, hr', _⟩ := strs_at hx
      have hrl := hs.2 r hr'
      refine gv_to (gv_and (gv_eqI (gv_lenS (ga_1 (gv_var (by rfl))) (small (by omega))) (fun H5 s5 => gv_var (by rfl)) (by rfl)) (fun _ H5 s5 => gv_call (ga_1 (gv_var (by rfl))) fun H6 R' s6 kk' => ⟨r, rfl, by omega, kk'⟩)) fun H5 s5 => ?_
      exact kk H5 s5
    · refine ⟨D, (r0 :: rs).map (rowOk r0.length), rfl, SqL.of (by rw [hDl, map_onS, List.map_map]; rfl), ?_⟩
      have e : (((r0 :: rs).map (rowOk r0.length)).all fun b => b) = picOk (r0 :: rs) := by
        unfold picOk
        rw [c', c2', Bool.true_and, Bool.true_and, List.all_map]
        rfl
      rw [e]
      exact k _ (s13.trans s4)

def sp_look (K : PySem.W.Frag) (C : Addr) : Sp := fun vs H Q E => ∃ (a : Addr) (p : List Str), vs = [.ref a] ∧ SqL K H a (p.map V.str) ∧ Sm p ∧ (picOk p = true → ∀ H', Same H H' → Q .non H') ∧ (picOk p = false → ∀ H', Same H H' → E (.ref C) none H')
theorem sc_look_picture : FnScope ["picture"] ["picture"] (defScope s_look_picture) := ⟨rfl, rfl, rfl, by decide +kernel, rfl, by decide +kernel, by decide +kernel⟩
theorem ok_look_picture (T : Txt K mg t) : FnOk P w K mg base (CX1 P w) 3 t.f_look_picture t.d_look_picture ["picture"] (sp_look K t.c_BadPicture) := by
  have G_is_picture : FnOk P w K mg base CX0 2 t.f_is_picture t.d_is_picture ["rows"] (sp_is_picture K) := ok_is_picture T
  refine T.look_picture.fn.okX sc_look_picture (fun vs H Q E h => ?_) (fun cdv A outer s H vs Q E hr h => ?_)
  · obtain ⟨a, p, rfl, _⟩ := h
    rfl
  obtain ⟨a, p, rfl, hq, hs, k1, k2⟩ := h
  refine ⟨_, (pss_one (ps_if (pt_not (pt_val (pe_callD T.is_picture G_is_picture (hr.mono (by first | decide | omega)) pass0 (pa_cons (pv 0) pa_nil)))) (pss_one (ps_raise raiseX rfl rfl rfl rfl T.x_BadPicture rfl (pa_cons pe_str pa_nil))) pss_nil)), ?_⟩
  refine rs_if2 (gt_not (gt_tB (gv_call (ga_1 (gv_var (by rfl))) fun H1 R s1 kk => ⟨a, p, rfl, s1.seq hq, hs, kk⟩))) (fun c H1 s1 => ?_) fun c H1 s1 => ?_
  · exact ⟨(by show 1 ≤ sizeLine; decide), k2 (by simpa using c) H1 s1⟩
  · exact k1 (by simpa using c) H1 s1


theorem comp_list_idx {ix : List (Option Nat)} {te : TE} {σ : L2.St} {H1 : Hp} {Q : Addr → Hp → Prop} {a : Addr} {xs : List V} {i₀ : Nat} (f : Nat → V) (hq : SqL K H1 a xs) (hz : xs.length ≤ sizeLine)
    (hs : ∀ (i : Nat) (x : V) (H : Hp) (R : VK), xs[i]? = some x → Same H1 H → (∀ H6, Same H H6 → R (f i) H6) → te ((capt ix σ).set i₀ (some x)) H R)
    (hd : ∀ D H, H1 D = none → Same H1 H → H D = some (.lst ((List.range xs.length).map f)) → Q D H) : CompW (Itl K a) ix (gName i₀) tYes te σ H1 Q := by
  refine comp_list hq hz (fun i ys _ => ys = (List.range i).map f) (fun D hD => by simp) (fun D i x ys H R1 R0 hD hx sm hDl p k1 k0 => ?_) fun D ys H hD sm hDl hl p => ?_
  · show te ((capt ix σ).set i₀ (some x)) H R1
    exact hs i x H R1 hx sm fun H6 s6 => k1 _ _ s6 (by rw [List.range_succ, List.map_append, p]; rfl)
  · refine hd D H hD sm ?_
    rw [hDl, p]
def tileB (n : Nat) (t : List Int) : Bool := decide (t.length = 4) && t.all fun f => decide (-1 ≤ f) && decide (f < n)
def onI (f : Int → V) : V → V
  | .int r => f r
  | v => v
theorem map_onI (f : Int → V) (p : List Int) : (p.map V.int).map (onI f) = p.map f := by rw [List.map_map]; rfl
theorem ints_at {p : List Int} {i : Nat} {x : V} (h : (p.map V.int)[i]? = some x) : ∃ r, x = .int r ∧ r ∈ p ∧ p[i]? = some r := by
  rw [List.getElem?_map] at h
  cases e : p[i]? with
  | none => rw [e] at h; cases h
  | some r => rw [e] at h; exact ⟨r, (Option.some.inj h).symm, List.mem_of_getElem? e, rfl⟩
def sp_are_fields (K : PySem.W.Frag) : Sp := fun vs H Q _ => ∃ (a : Addr) (tl : List Int) (n : Nat), vs = [.ref a, .int 4, .int n] ∧ SqT K H a (tl.map V.int) ∧ tl.length ≤ 30 ∧ ∀ H', Same H H' → Q (.bl (tileB n tl)) H'
theorem sc_are_fields : FnScope ["fields", "many", "marks"] ["fields", "many", "marks"] (defScope s_are_fields) := ⟨rfl, rfl, rfl, by decide +kernel, rfl, by decide +kernel, by decide +kernel⟩
theorem ok_are_fields (T : Txt K mg t) : FnOk P w K mg base CX0 1 t.f_are_fields t.d_are_fields ["fields", "many", "marks"] (sp_are_fields K) := by
  refine T.are_fields.fn.ok sc_are_fields (fun vs H Q E h => ?_) (fun cdv A outer s H vs Q E hr h => ?_)
  · obtain ⟨a, tl, n, rfl, _⟩ := h
    rfl
  obtain ⟨a, tl, n, rfl, hq, hl, k⟩ := h
  refine ⟨_, (pss_one (ps_ret (pe_and (pe_cmpR op_eq (pe_callB (kLen K) (by rfl) T.n_len boot_len (pa_cons (pv 0) pa_nil)) (pv 1) (nomark _)) (pe_one (pe_callB (kAll K) (by rfl) T.n_all boot_all (pa_cons (pe_comp (N' := ["field", "marks"]) (ix := [none, some 2]) (compScope_of (by kernel_rfl)) rfl (kiTup K (pv 0)) (fun _ _ _ _ => (pg_name (i := 0) (show List.Nodup (["field", "marks"] : List Str) from by decide +kernel) rfl (by first | exact Or.inl rfl | exact Or.inr rfl))) (fun _ _ _ _ => pf_nil) (fun _ _ _ _ => (pe_chain op_le op_lt (pe_glob rfl T.m_BORDER T.v_BORDER) (pv 0) (pv 1)))) pa_nil)))))), ?_⟩
  refine rs_ret (gv_eq (gv_and (q := tl.all fun f => decide (-1 ≤ f) && decide (f < n)) (gv_eqI (gv_lenT (K := K) (ga_1 (gv_var (by rfl))) hq) (fun _ _ => gv_var (by rfl)) (by rfl)) fun _ H1 s1 => (fun R r => ?_)) (y := .bl (tileB n tl)) ?_) fun H1 s1 => k H1 s1
  · refine tcb1 (tcompT (K := K) (gv_var (by rfl)) (s1.tup hq) fun H2 s2 hq2 => ?_)
    refine comp_tup_map (onI fun f => .bl (decide (-1 ≤ f) && decide (f < n))) hq2 (small (by rw [List.length_map]; omega)) (fun i x H4 R4 hx s4 k4 => ?_) fun D H4 hD s4 hDl => ?_
    · obtain ⟨f, rfl, _, _⟩ := ints_at hx
      exact gv_to (gv_chain gv_c (fun _ _ => gv_var (by rfl)) fun _ _ => gv_var (by rfl)) fun H5 s5 => k4 H5 s5
    · refine ⟨D, tl.map fun (f : Int) => decide (-1 ≤ f) && decide (f < (n : Int)), rfl, SqL.of (by rw [hDl, map_onI, List.map_map]; rfl), ?_⟩
      rw [List.all_map]
      exact r _ (s2.trans s4)
  · unfold tileB
    rw [List.length_map]
    congr 2
    simp
    omega

def riseB : List (List Int) → Bool
  | a :: b :: r => HT.lexLt a b && riseB (b :: r)
  | _ => true
theorem rise_range : ∀ ts : List (List Int), ((List.range (ts.length - 1)).all fun i => HT.lexLt (ts.getD i []) (ts.getD (i + 1) [])) = riseB ts
  | [] => rfl
  | [a] => rfl
  | a :: b :: r => by
    have ih := rise_range (b :: r)
    show ((List.range (r.length + 1)).all _) = (HT.lexLt a b && riseB (b :: r))
    rw [List.range_succ_eq_map, List.all_cons, List.all_map, ← ih]
    rfl
def sp_rises (K : PySem.W.Frag) : Sp := fun vs H Q _ => ∃ (a : Addr) (ts : List (List Int)), vs = [.ref a] ∧ Rep K H (.lst (ts.map tupI)) (.ref a) ∧ ts.length ≤ 900 ∧ ∀ H', Same H H' → Q (.bl (riseB ts)) H'
theorem rep_list {K : PySem.W.Frag} {H : Hp} {ds : List Dt} {a : Addr} (h : Rep K H (.lst ds) (.ref a)) : ∃ xs, SqL K H a xs ∧ Reps K H ds xs := by
  unfold Rep at h
  obtain ⟨a', xs, e, q, r⟩ := h
  cases e
  exact ⟨xs, q, r⟩
theorem sc_rises : FnScope ["tiles"] ["tiles"] (defScope s_rises) := ⟨rfl, rfl, rfl, by decide +kernel, rfl, by decide +kernel, by decide +kernel⟩
theorem ok_rises (T : Txt K mg t) : FnOk P w K mg base CX0 1 t.f_rises t.d_rises ["tiles"] (sp_rises K) := by
  refine T.rises.fn.ok sc_rises (fun vs H Q E h => ?_) (fun cdv A outer s H vs Q E hr h => ?_)
  · obtain ⟨a, ts, rfl, _⟩ := h
    rfl
  obtain ⟨a, ts, rfl, hrep, hl, k⟩ := h
  obtain ⟨xs, hq, hr0⟩ := rep_list hrep
  have hxl : xs.length = ts.length := by rw [hr0.length, List.length_map]
  have at_ : ∀ i, i < ts.length → ∃ c, xs[i]? = some (.ref c) ∧ SqT K H c ((ts.getD i []).map V.int) := fun i hi => by
    obtain ⟨v, hv, hr⟩ := hr0.get i (tupI (ts.getD i [])) (by rw [List.getElem?_map, List.getD_eq_getElem?_getD, List.getElem?_eq_getElem hi]; rfl)
    obtain ⟨c, rfl, hc⟩ := rep_tupI.mp hr
    exact ⟨c, hv, hc⟩
  refine ⟨_, (pss_one (ps_ret (pe_callB (kAll K) (by rfl) T.n_all boot_all (pa_cons (pe_comp (N' := ["place", "tiles"]) (ix := [none, some 0]) (compScope_of (by kernel_rfl)) rfl (pi_range2 rfl T.n_range (pa_cons pe_int (pa_cons (pe_callB (kLen K) (by rfl) T.n_len boot_len (pa_cons (pv 0) pa_nil)) pa_nil))) (fun _ _ _ _ => (pg_name (i := 0) (show List.Nodup (["place", "tiles"] : List Str) from by decide +kernel) rfl (by first | exact Or.inl rfl | exact Or.inr rfl))) (fun _ _ _ _ => pf_nil) (fun _ _ _ _ => (pe_cmpR (kLtT K hr.units) (pe_ix (kIxL K) (pv 1) (pe_op op_sub (pv 0) pe_int) (fun _ _ => rfl)) (pe_ix (kIxL K) (pv 1) (pv 0) (fun _ _ => rfl)) (nomark _)))) pa_nil)))), ?_⟩
  refine rs_ret' (tcb1 (tcompR2 (i := 1) (j := (ts.length : Int)) (ga_cons gv_c fun H1 s1 => ga_1 (gv_eq (gv_lenL (K := K) (ga_1 (gv_var (by rfl))) (s1.seq hq)) (by rw [hxl]))) ⟨by decide, by decide, by omega, by omega⟩ fun H1 s1 => ?_))
  have hn : ((ts.length : Int) - 1).toNat = ts.length - 1 := by omega
  rw [hn]
  refine comp_range_map (fun i => .bl (HT.lexLt (ts.getD i []) (ts.getD (i + 1) []))) (small (by omega)) (fun i H2 R hi s2 k2 => ?_) fun D H2 hD s2 hDl => ?_
  · obtain ⟨c, hc, qc⟩ := at_ i (by omega)
    obtain ⟨d, hd, qd⟩ := at_ (i + 1) (by omega)
    have s12 := s1.trans s2
    refine gv_to (gv_ltT (K := K) (gv_ixL (K := K) (gv_var (by rfl)) (fun _ _ => gv_eq (gv_ii (gv_var (by rfl)) fun _ _ => gv_c) (y := .int (i : Int)) (by congr 1; omega)) (s12.seq hq) (atI_nat hc)) (fun H3 s3 => gv_ixL (K := K) (gv_var (by rfl)) (fun _ _ => gv_eq (gv_var (by rfl)) (y := .int ((i + 1 : Nat) : Int)) (by congr 1; omega)) ((s12.trans s3).seq hq) (atI_nat hd)) (s12.tup qc) (s12.tup qd)) fun H3 s3 => k2 H3 s3
  · refine ⟨D, (List.range (ts.length - 1)).map fun i => HT.lexLt (ts.getD i []) (ts.getD (i + 1) []), rfl, SqL.of (by rw [hDl, List.map_map]; rfl), ?_⟩
    rw [List.all_map, show (List.range (ts.length - 1)).all ((fun b => b) ∘ fun i => HT.lexLt (ts.getD i []) (ts.getD (i + 1) [])) = riseB ts from rise_range ts]
    exact k _ (s1.trans s2)
def sysB (x : Str) (ts : List (List Int)) : Bool := (decide (x.length ≤ 16) && lettersOk x) && (ts.all (tileB x.length) && riseB ts)
/-- the pair at a -/
def SysAt (K : PySem.W.Frag) (H : Hp) (a : Addr) (x : Str) (ts : List (List Int)) : Prop := ∃ T, SqT K H a [.str x, .ref T] ∧ Rep K H (.lst (ts.map tupI)) (.ref T)
theorem SysAt.same {K : PySem.W.Frag} {H H' : Hp} {a : Addr} {x : Str} {ts : List (List Int)} (h : SysAt K H a x ts) (s : Same H H') : SysAt K H' a x ts := by
  obtain ⟨T, h1, h2⟩ := h
  exact ⟨T, s.tup h1, h2.same s⟩
structure Mild (x : Str) (ts : List (List Int)) : Prop where
  short : x.length ≤ 60
  few : ts.length ≤ 900
  small : ∀ t ∈ ts, t.length ≤ 30
def sp_is_system (K : PySem.W.Frag) : Sp := fun vs H Q _ => ∃ (a : Addr) (x : Str) (ts : List (List Int)), vs = [.ref a] ∧ SysAt K H a x ts ∧ Mild x ts ∧ ∀ H', Same H H' → Q (.bl (sysB x ts)) H'
theorem sc_is_system : FnScope ["system", "letters", "tiles"] ["system"] (defScope s_is_system) := ⟨rfl, rfl, rfl, by decide +kernel, rfl, by decide +kernel, by decide +kernel⟩
theorem ok_is_system (T : Txt K mg t) : FnOk P w K mg base CX0 2 t.f_is_system t.d_is_system ["system"] (sp_is_system K) := by
  have G_are_letters : FnOk P w K mg base CX0 1 t.f_are_letters t.d_are_letters ["text"] sp_are_letters := ok_are_letters T
  have G_are_fields : FnOk P w K mg base CX0 1 t.f_are_fields t.d_are_fields ["fields", "many", "marks"] (sp_are_fields K) := ok_are_fields T
  have G_rises : FnOk P w K mg base CX0 1 t.f_rises t.d_rises ["tiles"] (sp_rises K) := ok_rises T
  refine T.is_system.fn.ok sc_is_system (fun vs H Q E h => ?_) (fun cdv A outer s H vs Q E hr h => ?_)
  · obtain ⟨a, x, ts, rfl, _⟩ := h
    rfl
  obtain ⟨a, x, ts, rfl, ⟨L, hT, hrep⟩, hM, k⟩ := h
  have hsx := hM.short
  have hft := hM.few
  refine ⟨_, (pss_cons (ps_if (pt_cmpR op_ne (pe_callB (kLen K) (by rfl) T.n_len boot_len (pa_cons (pv 0) pa_nil)) pe_int (nomark _)) (pss_one (ps_ret pe_bl)) pss_nil) (pss_cons (ps_set (i := 1) sc_is_system.nd rfl (by first | exact Or.inl rfl | exact Or.inr rfl) (pe_ix (kIxT K) (pv 0) pe_int (fun _ _ => rfl))) (pss_cons (ps_set (i := 2) sc_is_system.nd rfl (by first | exact Or.inl rfl | exact Or.inr rfl) (pe_ix (kIxT K) (pv 0) pe_int (fun _ _ => rfl))) (pss_cons (ps_if (PW.pt (pw_or (pt_cmpR op_gt (pe_callB (kLen K) (by rfl) T.n_len boot_len (pa_cons (pv 1) pa_nil)) (pe_glob rfl T.m_MOST_MARKS T.v_MOST_MARKS) (nomark _)) (pw_or1 (pt_not (pt_val (pe_callD T.are_letters G_are_letters (hr.mono (by first | decide | omega)) pass0 (pa_cons (pv 1) pa_nil))))))) (pss_one (ps_ret pe_bl)) pss_nil) (pss_one (ps_ret (pe_and (pe_callB (kAll K) (by rfl) T.n_all boot_all (pa_cons (pe_comp (N' := ["tile", "letters"]) (ix := [none, some 1]) (compScope_of (by kernel_rfl)) rfl (kiList K (pv 2)) (fun _ _ _ _ => (pg_name (i := 0) (show List.Nodup (["tile", "letters"] : List Str) from by decide +kernel) rfl (by first | exact Or.inl rfl | exact Or.inr rfl))) (fun _ _ _ _ => pf_nil) (fun _ _ _ _ => (pe_callD T.are_fields G_are_fields (hr.mono (by first | decide | omega)) pass0 (pa_cons (pv 0) (pa_cons (pe_glob rfl T.m_TILE_FIELDS T.v_TILE_FIELDS) (pa_cons (pe_callB (kLen K) (by rfl) T.n_len boot_len (pa_cons (pv 1) pa_nil)) pa_nil)))))) pa_nil)) (pe_one (pe_callD T.rises G_rises (hr.mono (by first | decide | omega)) pass0 (pa_cons (pv 2) pa_nil)))))))))), ?_⟩
  refine rq_if (b := false) (gt_eq (gt_test (gv_neI (gv_lenT (K := K) (ga_1 (gv_var (by rfl))) hT) (fun _ _ => gv_c) (by rfl))) (by rfl)) (fun c => absurd c (by decide)) fun c H1 s1 => ?_
  refine rq_set (gv_ixT (K := K) (gv_var (by rfl)) (fun _ _ => gv_c) (s1.tup hT) (atI_nat (j := 0) rfl)) fun H2 s2 => ?_
  refine rq_set (gv_ixT (K := K) (gv_var (by rfl)) (fun _ _ => gv_c) ((s1.trans s2).tup hT) (atI_nat (j := 1) rfl)) fun H3 s3 => ?_
  have s03 := s1.trans (s2.trans s3)
  refine rq_if (b := !(decide (x.length ≤ 16) && lettersOk x)) (gt_eq (gt_or (gt_test (gv_ii (gv_lenS (K := K) (ga_1 (gv_var (by rfl))) (small (by omega))) fun _ _ => gv_c)) fun _ H4 s4 => gt_not (gt_tB (gv_call (ga_1 (gv_var (by rfl))) fun H5 R' s5 k5 => ⟨x, rfl, by omega, k5⟩))) ?_) (fun c H4 s4 => ?_) fun c H4 s4 => ?_
  · rw [Bool.not_and]
    congr 1
    by_cases c : x.length ≤ 16
    · rw [decide_eq_true c, decide_eq_false (by omega)]; rfl
    · rw [decide_eq_false c, decide_eq_true (by omega)]; rfl
  · have e : sysB x ts = false := by
      unfold sysB
      rw [Bool.not_eq_true'] at c
      rw [c, Bool.false_and]
    have := k H4 (s03.trans s4)
    rw [e] at this
    exact this
  have c' : (decide (x.length ≤ 16) && lettersOk x) = true := by simpa using c
  have s04 := s03.trans s4
  have hrep4 := hrep.same s04
  obtain ⟨xs, hq, hr0⟩ := rep_list hrep4
  have hxl : xs.length = ts.length := by rw [hr0.length, List.length_map]
  refine rs_ret (v := .bl (sysB x ts)) (gv_eq (gv_and (p := ts.all (tileB x.length)) (q := riseB ts) (fun R r => ?_) fun _ H5 s5 => gv_call (ga_1 (gv_var (by rfl))) fun H6 R' s6 k6 => ⟨L, ts, rfl, hrep4.same (s5.trans s6), hft, k6⟩) (by unfold sysB; rw [c', Bool.true_and])) fun H5 s5 => k H5 (s04.trans s5)
  refine tcb1 (tcompL (K := K) (gv_var (by rfl)) hq fun H5 s5 hq5 => ?_)
  refine comp_list_idx (fun i => .bl (tileB x.length (ts.getD i []))) hq5 (small (by omega)) (fun i v H6 R6 hv s6 k6 => ?_) fun D H6 hD s6 hDl => ?_
  · have hi : i < ts.length := by have := (List.getElem?_eq_some_iff.mp hv).1; omega
    obtain ⟨v', hv', hr⟩ := hr0.get i (tupI (ts.getD i [])) (by rw [List.getElem?_map, List.getD_eq_getElem?_getD, List.getElem?_eq_getElem hi]; rfl)
    rw [hv] at hv'
    cases hv'
    obtain ⟨c, rfl, hc⟩ := rep_tupI.mp hr
    have hm : ts.getD i [] ∈ ts := getD_mem hi
    exact gv_to (gv_call (ga_cons (gv_var (by rfl)) fun _ _ => ga_cons gv_c fun _ _ => ga_1 (gv_lenS (K := K) (ga_1 (gv_var (by rfl))) (small (by omega)))) fun H7 R7 s7 k7 => ⟨c, ts.getD i [], x.length, rfl, (s5.trans (s6.trans s7)).tup hc, hM.small _ hm, k7⟩) fun H7 s7 => k6 H7 s7
  · refine ⟨D, (List.range xs.length).map fun i => tileB x.length (ts.getD i []), rfl, SqL.of (by rw [hDl, List.map_map]; rfl), ?_⟩
    have e : (((List.range xs.length).map fun i => tileB x.length (ts.getD i [])).all fun b => b) = ts.all (tileB x.length) := by
      rw [hxl]
      have : (List.range ts.length).map (fun i => ts.getD i []) = ts := by
        refine List.ext_getElem (by simp) fun i h1 h2 => ?_
        simp [h2]
      conv => rhs; rw [← this]
      rw [List.all_map, List.all_map]
      rfl
    rw [e]
    exact r _ (s5.trans s6)
def sp_lookS (K : PySem.W.Frag) (C : Addr) : Sp := fun vs H Q E => ∃ (a : Addr) (x : Str) (ts : List (List Int)), vs = [.ref a] ∧ SysAt K H a x ts ∧ Mild x ts ∧ (sysB x ts = true → ∀ H', Same H H' → Q .non H') ∧ (sysB x ts = false → ∀ H', Same H H' → E (.ref C) none H')
theorem sc_look_system : FnScope ["system"] ["system"] (defScope s_look_system) := ⟨rfl, rfl, rfl, by decide +kernel, rfl, by decide +kernel, by decide +kernel⟩
theorem ok_look_system (T : Txt K mg t) : FnOk P w K mg base (CX1 P w) 3 t.f_look_system t.d_look_system ["system"] (sp_lookS K t.c_BadSystem) := by
  have G_is_system : FnOk P w K mg base CX0 2 t.f_is_system t.d_is_system ["system"] (sp_is_system K) := ok_is_system T
  refine T.look_system.fn.okX sc_look_system (fun vs H Q E h => ?_) (fun cdv A outer s H vs Q E hr h => ?_)
  · obtain ⟨a, x, ts, rfl, _⟩ := h
    rfl
  obtain ⟨a, x, ts, rfl, hA, hM, k1, k2⟩ := h
  refine ⟨_, (pss_one (ps_if (pt_not (pt_val (pe_callD T.is_system G_is_system (hr.mono (by first | decide | omega)) pass0 (pa_cons (pv 0) pa_nil)))) (pss_one (ps_raise raiseX rfl rfl rfl rfl T.x_BadSystem rfl (pa_cons pe_str pa_nil))) pss_nil)), ?_⟩
  refine rs_if2 (gt_not (gt_tB (gv_call (ga_1 (gv_var (by rfl))) fun H1 R s1 kk => ⟨a, x, ts, rfl, hA.same s1, hM, kk⟩))) (fun c H1 s1 => ?_) fun c H1 s1 => ?_
  · exact ⟨(by show 1 ≤ sizeLine; decide), k2 (by simpa using c) H1 s1⟩
  · exact k1 (by simpa using c) H1 s1
end
end K02

set_option maxHeartbeats 1000000
namespace K02
open PySem PySem.Spec PyProof.Rows L2
section
variable {P : Program} {w : World} {K : PySem.W.Frag} {mg : Str → Option Value} {base : Heap} {t : Ad}
theorem map_getD' {α β : Type} (g : α → β) (l : List α) (d : α) : l.map g = (List.range l.length).map fun i => g (l.getD i d) := by
  refine List.ext_getElem (by simp) fun i h1 h2 => ?_
  have hi : i < l.length := by simpa using h1
  simp [List.getD_eq_getElem?_getD, hi]
theorem cutV_drop (xs : List V) (k : Nat) : cutV xs (some (k : Int)) none = xs.drop k := by
  unfold cutV
  rw [HT.sIx_none, HT.sIx_nat]
  by_cases h : k ≤ xs.length
  · rw [Nat.min_eq_left h, List.take_of_length_le (by simp)]
  · rw [Nat.min_eq_right (by omega), Nat.sub_self, List.take_zero, List.drop_eq_nil_of_le (by omega)]
theorem for_zip {a b : Addr} {xs ys : List V} {tb : TS} {D : Ends} {σ : L2.St} {H : Hp} {i₀ j₀ n : Nat} (hn : n ≤ xs.length ∧ n ≤ ys.length ∧ (xs.length ≤ n ∨ ys.length ≤ n)) (Pv : Nat → L2.St → Hp → Prop) (h0 : Pv 0 σ H) (hl : ∀ i σ H, Pv i σ H → SqL K H a xs ∧ SqL K H b ys)
    (hs : ∀ i x y σ H tp, i < n → xs[i]? = some x → ys[i]? = some y → Pv i σ H → H tp = none → tb { D with nx := Pv (i + 1), ct := Pv (i + 1), bk := D.nx } ((σ.set i₀ (some x)).set j₀ (some y)) (upd H tp (.tup [x, y]))) (hd : ∀ σ H, Pv n σ H → D.nx σ H) :
    ∃ W : Nat → Nat → L2.St → Hp → Prop, (∃ m, W 0 m σ H) ∧ ∀ i m σ H, W i m σ H →
      ((Itz K a b).stop i H ∧ D.nx σ H) ∨ ((Itz K a b).go i H ∧ ∃ N : L2.St → Hp → Prop, (∀ σ' H', N σ' H' → ∃ m', m' < m ∧ W (i + 1) m' σ' H') ∧ ∀ x H', (Itz K a b).yld i H x H' → gTup K 2 (gCons (gName i₀) (gCons (gName j₀) gNil)) x σ H' fun σ2 H2 => tb { D with nx := N, ct := N, bk := D.nx } σ2 H2) := by
  refine ⟨fun i m σ H => m = n - i ∧ i ≤ n ∧ Pv i σ H, ⟨n, by simp, Nat.zero_le _, h0⟩, ?_⟩
  rintro i m σ H ⟨rfl, hi, p⟩
  obtain ⟨q1, q2⟩ := hl i σ H p
  by_cases hlt : i < n
  · have hx : xs[i]? = some xs[i] := List.getElem?_eq_getElem (by omega)
    have hy : ys[i]? = some ys[i] := List.getElem?_eq_getElem (by omega)
    refine .inr ⟨⟨xs, ys, xs[i], ys[i], q1, q2, hx, hy⟩, Pv (i + 1), fun σ' H' p' => ⟨n - (i + 1), by omega, rfl, hlt, p'⟩, fun v H' y => ?_⟩
    obtain ⟨tp, rfl, ht, x', y', rfl, ex, ey⟩ := y
    have ex' := ex xs q1
    have ey' := ey ys q2
    rw [hx] at ex'; rw [hy] at ey'
    cases ex'; cases ey'
    exact ⟨tp, _, rfl, SqT.of upd_same, rfl, xs[i], _, rfl, ys[i], _, rfl, rfl, hs i _ _ σ H tp hlt hx hy p ht⟩
  · have e : i = n := by omega
    subst e
    exact .inl ⟨⟨xs, ys, q1, q2, hn.2.2⟩, hd σ H p⟩
/-- rows of marks that may be read and joined -/
def RowsAt (K : PySem.W.Frag) (H : Hp) (a : Addr) (rows : List (List Int)) : Prop := ∃ rs : List (Addr × List Int), SqL K H a (rs.map rv) ∧ (∀ p ∈ rs, H p.1 = some (.lst (p.2.map V.int))) ∧ rs.map (·.2) = rows
theorem RowsAt.same {H H' : Hp} {a : Addr} {rows : List (List Int)} (h : RowsAt K H a rows) (s : Same H H') : RowsAt K H' a rows := by
  obtain ⟨rs, h1, h2, h3⟩ := h
  exact ⟨rs, s.seq h1, fun p hp => s _ _ (h2 p hp), h3⟩
def sp_bordered (K : PySem.W.Frag) (f : List (List Int) → List Dt) : Sp := fun vs H Q _ => ∃ (a : Addr) (rows : List (List Int)), vs = [.ref a] ∧ RowsAt K H a rows ∧ rows ≠ [] ∧ (∀ r ∈ rows, r.length = wid rows) ∧ rows.length ≤ 20 ∧ wid rows ≤ 20 ∧
  ∀ (F : Addr) (H' : Hp) (ws : List V), H F = none → Same H H' → H' F = some (.lst ws) → Reps K (Hm F H') (f rows) ws → Q (.ref F) H'
theorem gd_oneV {te : TE} {σ : L2.St} {H : Hp} {ns : List Int} {p : Addr} (h : Gv te σ H (.ref p)) (hl : H p = some (.lst (ns.map V.int))) : Gd K (tLst (tCons te tNil)) σ H [lstI ns] := fun R r =>
  h _ fun H1 s1 => ⟨(by show 1 ≤ sizeLine; decide), fun q hq => r q _ _ (s1.free hq) (s1.trans (Same.new hq _)) upd_same (by
    unfold Reps
    refine ⟨_, _, rfl, rep_lstI.mpr ⟨p, rfl, SqL.of ?_⟩, by unfold Reps; rfl⟩
    have ne : p ≠ q := ne_of_none (s1 _ _ hl) hq
    rw [hm_ne ne, upd_ne ne]
    exact s1 _ _ hl)⟩
theorem gn_catV {ta tb : TE} {σ : L2.St} {H : Hp} {xs ys : List V} {b : Addr} (ha : Gn ta σ H xs) (hb : ∀ H', Same H H' → Gv tb σ H' (.ref b) ∧ H' b = some (.lst ys)) (hz : xs.length + ys.length ≤ sizeLine) : Gn (tOp rCat ta tb) σ H (xs ++ ys) := fun R r =>
  ha _ fun a H1 ha s1 hl => (hb H1 s1).1 _ fun H2 s2 => ⟨a, b, xs, ys, rfl, rfl, s2 _ _ hl, s2 _ _ (hb H1 s1).2, hz, fun q hq => r q _ ((s1.trans s2).free hq) ((s1.trans s2).trans (Same.new hq _)) upd_same⟩
theorem sc_bordered : FnScope ["rows", "edge"] ["rows"] (defScope s_bordered) := ⟨rfl, rfl, rfl, by decide +kernel, rfl, by decide +kernel, by decide +kernel⟩
theorem ok_bordered (T : Txt K mg t) : FnOk P w K mg base CX0 1 t.f_bordered t.d_bordered ["rows"] (sp_bordered K fun rows => (bord rows).map lstI) := by
  refine T.bordered.fn.ok sc_bordered (fun vs H Q E h => ?_) (fun cdv A outer s H vs Q E hr h => ?_)
  · obtain ⟨a, rows, rfl, _⟩ := h
    rfl
  obtain ⟨a, rows, rfl, ⟨rs, hq, hrs, rfl⟩, hne, hrect, hlen, hwid, kk⟩ := h
  rw [List.length_map] at hlen
  refine ⟨_, (pss_cons (ps_set (i := 1) sc_bordered.nd rfl (by first | exact Or.inl rfl | exact Or.inr rfl) (pe_op op_rep (pe_lst (pa_cons (pe_glob rfl T.m_BORDER T.v_BORDER) pa_nil)) (pe_op op_add (pe_callB (kLen K) (by rfl) T.n_len boot_len (pa_cons (pe_ix (kIxL K) (pv 0) pe_int (fun _ _ => rfl)) pa_nil)) pe_int))) (pss_one (ps_ret (pe_op op_cat (pe_op op_cat (pe_lst (pa_cons (pv 1) pa_nil)) (pe_comp (N' := ["row"]) (ix := [none]) (compScope_of (by kernel_rfl)) rfl (kiList K (pv 0)) (fun _ _ _ _ => (pg_name (i := 0) (show List.Nodup (["row"] : List Str) from by decide +kernel) rfl (by first | exact Or.inl rfl | exact Or.inr rfl))) (fun _ _ _ _ => pf_nil) (fun _ _ _ _ => (pe_op op_cat (pe_op op_cat (pe_lst (pa_cons (pe_glob rfl T.m_BORDER T.v_BORDER) pa_nil)) (pv 0)) (pe_lst (pa_cons (pe_glob rfl T.m_BORDER T.v_BORDER) pa_nil)))))) (pe_lst (pa_cons (pv 1) pa_nil)))))), ?_⟩
  obtain ⟨p0, rr, rfl⟩ : ∃ p0 rr, rs = p0 :: rr := by
    cases rs with
    | nil => exact absurd rfl hne
    | cons p0 rr => exact ⟨p0, rr, rfl⟩
  generalize hrows : (p0 :: rr).map (·.2) = rows at *
  have hw0 : p0.2.length = wid rows := by rw [← hrows]; rfl
  refine rq_set' (gn_to (gn_eq (gn_rep (k := wid rows + 2) (gn_lst (xs := [.int (-1)]) (ga_1 gv_c) (by show 1 ≤ sizeLine; decide)) (fun H1 s1 => gv_eq (gv_ii (gv_lenL (K := K) (ga_1 (gv_ixL (K := K) (gv_var (by rfl)) (fun _ _ => gv_c) (s1.seq hq) (atI_nat (j := 0) rfl))) (SqL.of (s1 _ _ (hrs p0 List.mem_cons_self)))) fun _ _ => gv_c) (by rw [List.length_map, hw0]; rfl)) (by omega) (by simp; omega)) (flat_ints _ _)) fun ea H1 hea s1 hea1 => ?_)
  have hmid : rows.map (fun r => lstI ([-1] ++ r ++ [-1])) = (List.range ((p0 :: rr).map rv).length).map fun i => lstI ([-1] ++ rows.getD i [] ++ [-1]) := by
    rw [show ((p0 :: rr).map rv).length = rows.length by rw [← hrows]; simp]
    exact map_getD' (fun r => lstI ([-1] ++ r ++ [-1])) rows []
  have eb : (bord rows).map lstI = [lstI (edge rows)] ++ rows.map (fun r => lstI ([-1] ++ r ++ [-1])) ++ [lstI (edge rows)] := by
    unfold bord
    rw [List.map_append, List.map_append, List.map_map]
    rfl
  have hrl : rows.length = rr.length + 1 := by rw [← hrows]; simp
  refine rs_ret' (gd_to (K := K) (gd_cat (gd_cat (gd_oneV (ns := edge rows) (gv_var (by rfl)) hea1) (fun H2 s2 => (show Gd K _ _ H2 (rows.map fun r => lstI ([-1] ++ r ++ [-1])) from fun R r => ?_)) (small (by simp at hlen ⊢; omega))) (fun H2 s2 => gd_oneV (ns := edge rows) (gv_var (by rfl)) (s2 _ _ hea1)) (small (by simp at hlen ⊢; omega))) fun F H2 ws hF s2 hF2 rF => ?_)
  · refine tcompL (K := K) (gv_var (by rfl)) ((s1.trans s2).seq hq) fun H4 s4 hq4 => ?_
    refine comp_list_rep (fun i => lstI ([-1] ++ rows.getD i [] ++ [-1])) hq4 (small (by rw [List.length_map]; omega)) (fun D i x H5 R5 hD hDs hx s5 k5 => ?_) fun D H5 ys hD s5 hDl rep => r D H5 ys (s4.free hD) (s4.trans s5) hDl (by rw [hmid]; exact rep)
    obtain ⟨pi, hpi, hpx⟩ : ∃ pi, (p0 :: rr)[i]? = some pi ∧ x = .ref pi.1 := by
      rw [List.getElem?_map] at hx
      cases e : (p0 :: rr)[i]? with
      | none => rw [e] at hx; cases hx
      | some pi => rw [e] at hx; exact ⟨pi, rfl, (Option.some.inj hx).symm⟩
    subst hpx
    have hm := List.mem_of_getElem? hpi
    have hgd : rows.getD i [] = pi.2 := by rw [← hrows, List.getD_eq_getElem?_getD, List.getElem?_map, hpi]; rfl
    have hpl : pi.2.length ≤ 20 := by
      rw [hrect pi.2 (by rw [← hrows]; exact List.mem_map.mpr ⟨pi, hm, rfl⟩)]; exact hwid
    have s05 := s1.trans (s2.trans (s4.trans s5))
    refine gn_to (gn_catN (xs := [.int (-1)] ++ pi.2.map V.int) (gn_catV (gn_lst (ga_1 gv_c) (by show 1 ≤ sizeLine; decide)) (fun H6 s6 => ⟨gv_var (by rfl), (s05.trans s6) _ _ (hrs pi hm)⟩) (small (by simp; omega))) (fun H6 s6 => gn_lst (ga_1 gv_c) (by show 1 ≤ sizeLine; decide)) (small (by simp; omega))) fun p H6 hp s6 hl => ?_
    refine k5 _ H6 s6 (rep_lstI.mpr ⟨p, rfl, SqL.of ?_⟩)
    have ne : p ≠ D := fun z => by
      obtain ⟨ys, hys⟩ := hDs
      rw [z, hys] at hp
      cases hp
    rw [hm_ne ne, hl, hgd]
    simp
  · exact kk F H2 ws (s1.free hF) (s1.trans s2) hF2 (by show Reps K _ ((bord rows).map lstI) ws; rw [eb]; exact rF)
theorem rows_atc {H2 : Hp} {ws : List V} {n : Nat} {f : Nat → List V} (h : ∀ {Hx : Hp}, Same H2 Hx → ∀ y, y < n → ∃ c, ws[y]? = some (.ref c) ∧ SqL K Hx c (f y)) {i : Nat} {Hx : Hp} {c : Addr} (s : Same H2 Hx) (hi : i < n) (hc : ws[i]? = some (.ref c)) : SqL K Hx c (f i) := by
  obtain ⟨c', e, q⟩ := h s i hi
  rw [hc] at e
  cases e
  exact q
theorem sc_tiles_of : FnScope ["rows", "fields", "tiles", "upper", "lower", "place"] ["rows"] (defScope s_tiles_of) := ⟨rfl, rfl, rfl, by decide +kernel, rfl, by decide +kernel, by decide +kernel⟩
theorem ok_tiles_of (T : Txt K mg t) : FnOk P w K mg base CX0 2 t.f_tiles_of t.d_tiles_of ["rows"] (sp_bordered K fun rows => (grid rows).map tupI) := by
  have G_bordered : FnOk P w K mg base CX0 1 t.f_bordered t.d_bordered ["rows"] (sp_bordered K fun rows => (bord rows).map lstI) := ok_bordered T
  refine T.tiles_of.fn.ok sc_tiles_of (fun vs H Q E h => ?_) (fun cdv A outer s H vs Q E hr h => ?_)
  · obtain ⟨a, rows, rfl, _⟩ := h
    rfl
  obtain ⟨a, rows, rfl, hR, hne, hrect, hlen, hwid, kk⟩ := h
  refine ⟨_, (pss_cons (ps_set (i := 1) sc_tiles_of.nd rfl (by first | exact Or.inl rfl | exact Or.inr rfl) (pe_callD T.bordered G_bordered (hr.mono (by first | decide | omega)) pass0 (pa_cons (pv 0) pa_nil))) (pss_cons (ps_set (i := 2) sc_tiles_of.nd rfl (by first | exact Or.inl rfl | exact Or.inr rfl) (pe_lst pa_nil)) (pss_cons (ps_for PassesOwn.never rfl (kiZip K T.n_zip (pa_cons (pv 1) (pa_cons (pe_slice (kSlL K) (pv 1) (po_some pe_int) po_none) pa_nil))) (kgTup K (n := 2) (pgs_cons (pg_name (i := 3) sc_tiles_of.nd rfl (by first | exact Or.inl rfl | exact Or.inr rfl)) (pgs_cons (pg_name (i := 4) sc_tiles_of.nd rfl (by first | exact Or.inl rfl | exact Or.inr rfl)) pgs_nil))) (pss_one (ps_for PassesOwn.never rfl (pi_range1 rfl T.n_range (pa_cons (pe_op op_sub (pe_callB (kLen K) (by rfl) T.n_len boot_len (pa_cons (pv 3) pa_nil)) pe_int) pa_nil)) (pg_name (i := 5) sc_tiles_of.nd rfl (by first | exact Or.inl rfl | exact Or.inr rfl)) (pss_one (ps_expr (kBm K PySem.F.plainAttrs_list PySem.F.slot_list_append PySem.F.type_list_append mt_append (pv 2) (pa_cons (pe_tup (pa_cons (pe_ix (kIxL K) (pv 3) (pv 5) (fun _ _ => rfl)) (pa_cons (pe_ix (kIxL K) (pv 3) (pe_op op_add (pv 5) pe_int) (fun _ _ => rfl)) (pa_cons (pe_ix (kIxL K) (pv 4) (pv 5) (fun _ _ => rfl)) (pa_cons (pe_ix (kIxL K) (pv 4) (pe_op op_add (pv 5) pe_int) (fun _ _ => rfl)) pa_nil))))) pa_nil))))))) (pss_one (ps_ret (pv 2)))))), ?_⟩
  refine rq_set' (tcall (ga_1 (gv_var (by rfl))) fun H1 s1 => ⟨a, rows, rfl, hR.same s1, hne, hrect, hlen, hwid, fun S H2 ws hS s2 hS2 rS => ?_⟩)
  have s02 := s1.trans s2
  have rows_at : ∀ {Hx : Hp}, Same H2 Hx → ∀ y, y < rows.length + 2 → ∃ c, ws[y]? = some (.ref c) ∧ SqL K Hx c (((bord rows).getD y []).map V.int) := fun {Hx} sx y hy => by
    have hy' : y < (bord rows).length := by rw [bord_len]; exact hy
    obtain ⟨v, hv, hr⟩ := Reps.get rS y (lstI ((bord rows).getD y [])) (by rw [List.getElem?_map, List.getD_eq_getElem?_getD, List.getElem?_eq_getElem hy']; rfl)
    obtain ⟨c, rfl, hc⟩ := rep_lstI.mp hr
    exact ⟨c, hv, (hm_out.trans sx).seq hc⟩
  have hwl : ws.length = rows.length + 2 := by
    rw [Reps.length rS, List.length_map, bord_len]
  refine rq_set' ⟨(by show 0 ≤ sizeLine; decide), fun F hF => ?_⟩
  have sF := Same.new hF (.lst [])
  refine ⟨_, rfl, _, rfl, 1, rfl, S, ws, rfl, SqL.of (sF _ _ hS2), fun p hp => ⟨S, p, rfl, ⟨_, SqL.of (Same.new hp _ _ _ (sF _ _ hS2))⟩, ⟨_, SqL.of upd_same⟩, ?_⟩⟩
  have ecut : cutV ws (some 1) none = ws.drop 1 := cutV_drop ws 1
  have sp := Same.new hp (.lst (cutV ws (some 1) none))
  have nFp : p ≠ F := fun z => by rw [z, upd_same] at hp; cases hp
  refine for_zip (K := K) (xs := ws) (ys := ws.drop 1) (n := rows.length + 1) ⟨by omega, by rw [List.length_drop]; omega, .inr (by rw [List.length_drop]; omega)⟩
    (fun i σ H3 => ∃ (e3 e4 e5 : Option V) (us : List V), σ = [some (.ref a), some (.ref S), some (.ref F), e3, e4, e5] ∧ Same H2 H3 ∧ H3 p = some (.lst (ws.drop 1)) ∧ H3 F = some (.lst us) ∧ Reps K (Hm F H3) (((List.range i).flatMap (lineOf rows)).map tupI) us)
    ⟨none, none, none, [], rfl, sF.trans sp, by rw [upd_same, ecut], sp _ _ upd_same, by show Reps K _ [] []; unfold Reps; rfl⟩
    (fun i σ H3 hh => by
      obtain ⟨e3, e4, e5, us, rfl, s3, hp3, hF3, rF3⟩ := hh
      exact ⟨SqL.of (s3 _ _ hS2), SqL.of hp3⟩) ?_ ?_
  · rintro i x y σ H3 tp hi hx hy ⟨e3, e4, e5, us, rfl, s3, hp3, hF3, rF3⟩ htp
    obtain ⟨c1, hc1, q1⟩ := rows_at (s3.trans (Same.new htp (.tup [x, y]))) i (by omega)
    obtain ⟨c2, hc2, q2⟩ := rows_at (s3.trans (Same.new htp (.tup [x, y]))) (i + 1) (by omega)
    rw [hx] at hc1
    cases hc1
    rw [List.getElem?_drop, show 1 + i = i + 1 by omega] at hy
    rw [hy] at hc2
    cases hc2
    have l1 := bord_row hrect (y := i) (by omega)
    have l2 := bord_row hrect (y := i + 1) (by omega)
    have st := Same.new htp (.tup [V.ref c1, V.ref c2])
    have nTF : tp ≠ F := fun z => by rw [z, hF3] at htp; cases htp
    refine rs_forR (n := wid rows + 1) (ga_1 (gv_eq (gv_ii (gv_lenL (K := K) (ga_1 (gv_var (by rfl))) q1) fun _ _ => gv_c) (by rw [List.length_map, l1]; congr 1; omega))) (by omega)
      (fun j σ H4 => ∃ (e5 : Option V) (us : List V), σ = [some (.ref a), some (.ref S), some (.ref F), some (.ref c1), some (.ref c2), e5] ∧ Same H2 H4 ∧ H4 p = some (.lst (ws.drop 1)) ∧ SqL K H4 c1 (((bord rows).getD i []).map V.int) ∧ SqL K H4 c2 (((bord rows).getD (i + 1) []).map V.int) ∧ H4 F = some (.lst us) ∧ Reps K (Hm F H4) ((((List.range i).flatMap (lineOf rows)) ++ (List.range j).map (tileAt (bord rows) i)).map tupI) us)
      (fun H4 s4 => ⟨e5, us, rfl, s3.trans (st.trans s4), s4 _ _ (st _ _ hp3), s4.seq q1, s4.seq q2, s4 _ _ (st _ _ hF3), by simpa using rF3.same (st.trans s4).hm⟩) ?_ ?_
    · rintro j σ H4 hj ⟨e5, us, rfl, s4, hp4, qc1, qc2, hF4, rF4⟩
      have it : ∀ {σ : L2.St} {Hx : Hp} {k : Nat} {tc : TE} {y x : Nat} {c : Addr}, σ[k]? = some (some (V.ref c)) → Same H4 Hx → SqL K H4 c (((bord rows).getD y []).map V.int) → x < ((bord rows).getD y []).length → (∀ Hy, Same Hx Hy → Gv tc σ Hy (.int (x : Int))) → Gv (tOp (rIxL K) (tVar k) tc) σ Hx (.int (((bord rows).getD y []).getD x 0)) := fun h2 sx hc hx hcx =>
        gv_ixL (K := K) (gv_var h2) hcx (sx.seq hc) (atI_ints hx)
      have vx : ∀ {σ : L2.St} {Hx : Hp}, σ[5]? = some (some (V.int (j : Int))) → ∀ Hy, Same Hx Hy → Gv (tVar 5) σ Hy (.int (j : Int)) := fun h _ _ => gv_var h
      have vx1 : ∀ {σ : L2.St} {Hx : Hp}, σ[5]? = some (some (V.int (j : Int))) → ∀ Hy, Same Hx Hy → Gv (tOp (rI0 fun i j => .int (i + j)) (tVar 5) (tC (.int 1))) σ Hy (.int ((j + 1 : Nat) : Int)) := fun h _ _ => gv_eq (gv_ii (gv_var h) fun _ _ => gv_c) rfl
      refine ⟨_, rfl, .inl ⟨rfl, _, SqL.of hF4⟩, ?_⟩
      refine targ_tup (ga_cons (it (y := i) (x := j) rfl (Same.refl _) qc1 (by omega) (vx rfl)) fun H5 s5 => ga_cons (it (y := i) (x := j + 1) rfl s5 qc1 (by omega) (vx1 rfl)) fun H6 s6 => ga_cons (it (y := i + 1) (x := j) rfl (s5.trans s6) qc2 (by omega) (vx rfl)) fun H7 s7 => ga_1 (it (y := i + 1) (x := j + 1) rfl (s5.trans (s6.trans s7)) qc2 (by omega) (vx1 rfl))) (by show 4 ≤ sizeLine; decide) fun H5 q s5 hq => ?_
      have sq := Same.new hq (.tup [V.int (((bord rows).getD i []).getD j 0), .int (((bord rows).getD i []).getD (j + 1) 0), .int (((bord rows).getD (i + 1) []).getD j 0), .int (((bord rows).getD (i + 1) []).getD (j + 1) 0)])
      have s45 := s5.trans sq
      have ne : q ≠ F := fun z => by rw [z, s5 _ _ hF4] at hq; cases hq
      have hcF : ∀ {c : Addr} {zs : List V} {o : HO}, SqL K H4 c zs → SqL K H4 c zs := fun h => h
      refine ⟨F, us, _, rfl, rfl, s45 _ _ hF4, ?_, ?_⟩
      · rw [rF4.length]
        refine Nat.lt_of_le_of_lt (show _ ≤ 1000 from ?_) (by decide)
        have hfl := flat_len rows i
        simp only [List.length_map, List.length_append, List.length_range]
        have : i * (wid rows + 1) ≤ 21 * 21 := Nat.mul_le_mul (by omega) (by omega)
        omega
      · refine ⟨_, us ++ [.ref q], rfl, (s4.trans s45).put hF _, ?_, ?_, ?_, upd_same, ?_⟩
        · rw [upd_ne nFp]; exact s45 _ _ hp4
        · exact (rows_atc rows_at (i := i) ((s4.trans s45).put hF _) (by omega) hx)
        · exact (rows_atc rows_at (i := i + 1) ((s4.trans s45).put hF _) (by omega) hy)
        · have e : (((List.range i).flatMap (lineOf rows)) ++ (List.range (j + 1)).map (tileAt (bord rows) i)).map tupI = (((List.range i).flatMap (lineOf rows)) ++ (List.range j).map (tileAt (bord rows) i)).map tupI ++ [tupI (tileAt (bord rows) i j)] := by
            simp [List.range_succ]
          rw [e]
          refine Reps.snoc (rep_tupI.mpr ⟨q, rfl, SqT.of ?_⟩) (rF4.same (s45.hm_upd _))
          rw [hm_ne ne, upd_ne ne, upd_same]
          rfl
    · rintro σ H4 ⟨e5, us, rfl, s4, hp4, qc1, qc2, hF4, rF4⟩
      refine ⟨_, _, _, us, rfl, s4, hp4, hF4, ?_⟩
      rw [List.range_succ, List.flatMap_append]
      simpa [lineOf] using rF4
  · rintro σ H3 ⟨e3, e4, e5, us, rfl, s3, hp3, hF3, rF3⟩
    exact ⟨_, rfl, kk F H3 us (s02.free hF) (s02.trans s3) hF3 rF3⟩
end
end K02

namespace L2
open PySem PySem.Spec PyProof.Rows
section
variable {prog : Program} {w : World} {A : Around} {E : Value → Shared → Prop} {s : Shared}
abbrev SI : String := "str_ascii_iterator"
theorem nextOf_sign {it : Addr} {x : Str} {t : Tok} {i c : Nat} {Q : Value → Shared → Prop} (hit : s.heap.IsStrIter it SI x t i) (hx : x.cps[i]? = some c)
    (hQ : ∀ h', h'.IsStrIter it SI x t (i + 1) → Heap.SameBut it s.heap h' → Q (.str ⟨#[c]⟩ s.toks) { s with heap := h', toks := s.toks + 1 }) :
    wpAny (model prog w) A (Builtin.SmallTypes.nextOf (.ref it)) Q E s := by
  obtain ⟨o, ho, hc, hd⟩ := id hit
  unfold Builtin.SmallTypes.nextOf
  refine wpAny_bind (wpAny_callSpecial?_slot (name := Str.ofString "__next__") hit.typeIs F.slot_str_ascii_iterator_next
    (wpAny_call_entry F.slot_str_ascii_iterator_next hit.typeIs F.entry_str_ascii_iterator_next ?_ (F.args_str_ascii_iterator_next_1 _)))
  show wpAny _ _ (field (.ref it) 0 >>= _) _ _ s
  refine wpAny_bind (wpAny_field ho hd (x := .str x t) rfl ?_)
  show wpAny _ _ (field (.ref it) 1 >>= _) _ _ s
  refine wpAny_bind (wpAny_field ho hd (x := .int i 0) rfl ?_)
  simp only [Int.toNat_natCast, hx]
  refine wpAny_bind (wpAny_setField ho hd (by simp) (wpAny_bind (wpAny_mkStr (wpAny_pure ⟨_, rfl, wpAny_pure (hQ _ ?_ (Heap.SameBut.update ..))⟩) (by show 1 ≤ sizeLine; decide))))
  exact ⟨_, Heap.get?_update_self _ ho (Obj.isFreed_of_fields (Obj.data_mapFields hd _)), (Obj.cls_mapFields ..).trans hc, by
    rw [Obj.data_mapFields hd]; simp [rawInt]⟩
theorem zipS_item {z TI TO i1 i2 l1 : Addr} {k1 k2 : Nat} {xs : Array Value} {x a b : Value} {y : Str} {t : Tok} {c : Nat} {Q : Value → Shared → Prop} (D : ZipApart z TI TO i1 i2 l1 l1)
    (hz : IsZip s.heap z TI TO .none) (hTI : IsPair s.heap TI (.ref i1) (.ref i2)) (hTO : IsPair s.heap TO a b)
    (h1 : s.heap.IsListIter i1 l1 k1) (h2 : s.heap.IsStrIter i2 SI y t k2) (hl1 : s.heap.IsList l1 xs) (hx : xs[k1]? = some x) (hy : y.cps[k2]? = some c)
    (hQ : ∀ h', IsZip h' z TI TO (rawInt s.heap.objs.size) → IsPair h' TO x (.str ⟨#[c]⟩ s.toks) → h'.IsListIter i1 l1 (k1 + 1) → h'.IsStrIter i2 SI y t (k2 + 1) → IsPair h' s.heap.objs.size x (.str ⟨#[c]⟩ s.toks) →
      (∀ c o, c ≠ z → c ≠ TO → c ≠ i1 → c ≠ i2 → s.heap.get? c = some o → h'.get? c = some o) → Q (.ref s.heap.objs.size) { s with heap := h', toks := s.toks + 1 }) :
    wpAny (model prog w) A (Builtin.«zip.__next__» ⟨[.ref z], []⟩) (fun fin s' => ∃ v, fin = .done (.ret v) ∧ Q v s') E s := by
  show wpAny _ _ (field (.ref z) 2 >>= _) _ _ _
  refine wpAny_bind (wpAny_field hz rfl (x := .bool false) rfl ?_)
  show wpAny _ _ (field (.ref z) 3 >>= _) _ _ _
  refine wpAny_bind (wpAny_field hz rfl (x := .ref TI) rfl (wpAny_bind (wpAny_seqItems hTI rfl ?_)))
  show wpAny _ _ (Builtin.SmallTypes.ownedTupleIsFree (.ref z) >>= _) _ _ _
  refine wpAny_bind ?_
  unfold Builtin.SmallTypes.ownedTupleIsFree
  refine wpAny_bind (wpAny_field hz rfl (x := .none) rfl (wpAny_pure ?_))
  simp only [if_true]
  refine wpAny_bind (wpAny_rule (wpAny_bind (wpAny_field hz rfl (x := .ref TO) rfl (wpAny_bind (wpAny_setField_rec hz (by simp) fun H1 Z1 S1 => ?_)))))
  replace Z1 : IsZip H1 z TI TO .ellipsis := Z1
  refine wpAny_bind ?_
  simp only [List.zipIdx_cons, List.zipIdx_nil, List.forIn_cons, List.forIn_nil]
  refine wpAny_bind (wpAny_bind (wpAny_onRaise ?_))
  show wpAny _ _ (Builtin.SmallTypes.nextOf (.ref i1) >>= _) _ _ _
  refine wpAny_bind (wpAny_nextOf_list_item (h1.extBut S1.extBut D.i1z) (hl1.extBut S1.extBut D.l1z) hx fun H2 L2' S2 => wpAny_pure ?_)
  have O2 : IsPair H2 TO a b := S2.extBut _ _ D.TOi1 (S1.extBut _ _ D.TOz hTO)
  refine wpAny_bind (wpAny_seqItems O2 rfl (wpAny_bind (wpAny_updateSeq_pair O2 fun H3 O3 S3 => ?_)))
  replace O3 : IsPair H3 TO x b := O3
  refine wpAny_bind (wpAny_letGo (wpAny_pure ?_))
  refine wpAny_bind (wpAny_bind (wpAny_onRaise ?_))
  show wpAny _ _ (Builtin.SmallTypes.nextOf (.ref i2) >>= _) _ _ _
  refine wpAny_bind (nextOf_sign (((h2.extBut S1.extBut D.i2z).extBut S2.extBut D.i12.symm).extBut S3.extBut D.TOi2.symm) hy fun H4 L4 S4 => wpAny_pure ?_)
  have O4 : IsPair H4 TO x b := S4.extBut _ _ D.TOi2 O3
  refine wpAny_bind (wpAny_seqItems O4 rfl (wpAny_bind (wpAny_updateSeq_pair O4 fun H5 O5 S5 => ?_)))
  replace O5 : IsPair H5 TO x (.str ⟨#[c]⟩ s.toks) := O5
  refine wpAny_bind (wpAny_letGo (wpAny_pure (wpAny_pure ?_)))
  refine wpAny_bind (wpAny_seqItems O5 rfl (wpAny_bind (wpAny_newTuple ?_)))
  have hsz : H5.objs.size = s.heap.objs.size := by rw [S5.1, S4.1, S3.1, S2.1, S1.1]
  have Z5 : IsZip H5 z TI TO .ellipsis := S5.extBut _ _ D.TOz.symm (S4.extBut _ _ D.i2z.symm (S3.extBut _ _ D.TOz.symm (S2.extBut _ _ D.i1z.symm Z1)))
  have K5 : ∀ c o, c ≠ z → c ≠ TO → c ≠ i1 → c ≠ i2 → s.heap.get? c = some o → H5.get? c = some o := fun c o c1 c2 c3 c4 e =>
    S5.extBut _ _ c2 (S4.extBut _ _ c4 (S3.extBut _ _ c2 (S2.extBut _ _ c3 (S1.extBut _ _ c1 e))))
  have A5 : H5.IsListIter i1 l1 (k1 + 1) := ((L2'.extBut S3.extBut D.TOi1.symm).extBut S4.extBut D.i12).extBut S5.extBut D.TOi1.symm
  have B5 : H5.IsStrIter i2 SI y t (k2 + 1) := L4.extBut S5.extBut D.TOi2.symm
  have zl : z < H5.objs.size := Heap.lt_size Z5
  show wpAny _ _ (Builtin.SmallTypes.ownedTupleHandOut (.ref z) (.ref H5.objs.size) >>= _) _ _ _
  refine wpAny_bind ?_
  unfold Builtin.SmallTypes.ownedTupleHandOut
  have Z6 : IsZip (H5.push { cls := .type "tuple", data := .seq #[x, .str ⟨#[c]⟩ s.toks] }) z TI TO .ellipsis := Heap.get?_push_of_some _ Z5
  refine wpAny_bind (wpAny_setField_rec Z6 (by simp) fun H7 Z7 S7 => ?_)
  replace Z7 : IsZip H7 z TI TO (rawInt H5.objs.size) := Z7
  refine wpAny_setField_rec Z7 (by simp) fun H8 Z8 S8 => ?_
  replace Z8 : IsZip H8 z TI TO (rawInt H5.objs.size) := Z8
  have up : ∀ c o, c ≠ z → H5.get? c = some o → H8.get? c = some o := fun c o c1 e => S8.extBut _ _ c1 (S7.extBut _ _ c1 (Heap.get?_push_of_some _ e))
  have T8 : IsPair H8 H5.objs.size x (.str ⟨#[c]⟩ s.toks) := S8.extBut _ _ (Nat.ne_of_gt zl) (S7.extBut _ _ (Nat.ne_of_gt zl) (Heap.get?_push_size _ rfl))
  rw [hsz] at Z8 T8
  refine wpAny_pure ⟨_, rfl, ?_⟩
  show Q (.ref H5.objs.size) _
  rw [hsz]
  obtain ⟨o2, e2, r2⟩ := B5
  exact hQ H8 Z8 (up _ _ D.TOz O5) (A5.at fun o e => up _ o D.i1z e) ⟨o2, up _ o2 D.i2z e2, r2⟩ T8 fun c o c1 c2 c3 c4 e => up c o c1 (K5 c o c1 c2 c3 c4 e)
theorem next_zipS {z TI TO i1 i2 l1 : Addr} {k1 k2 : Nat} {xs : Array Value} {x a b : Value} {y : Str} {t : Tok} {c : Nat} {Q : Option Value → Shared → Prop} (D : ZipApart z TI TO i1 i2 l1 l1)
    (hz : IsZip s.heap z TI TO .none) (hTI : IsPair s.heap TI (.ref i1) (.ref i2)) (hTO : IsPair s.heap TO a b)
    (h1 : s.heap.IsListIter i1 l1 k1) (h2 : s.heap.IsStrIter i2 SI y t k2) (hl1 : s.heap.IsList l1 xs) (hx : xs[k1]? = some x) (hy : y.cps[k2]? = some c)
    (hQ : ∀ h', IsZip h' z TI TO (rawInt s.heap.objs.size) → IsPair h' TO x (.str ⟨#[c]⟩ s.toks) → h'.IsListIter i1 l1 (k1 + 1) → h'.IsStrIter i2 SI y t (k2 + 1) → IsPair h' s.heap.objs.size x (.str ⟨#[c]⟩ s.toks) →
      (∀ c o, c ≠ z → c ≠ TO → c ≠ i1 → c ≠ i2 → s.heap.get? c = some o → h'.get? c = some o) → Q (some (.ref s.heap.objs.size)) { s with heap := h', toks := s.toks + 1 }) :
    wpAny (model prog w) A (pyNext (.ref z)) Q E s := by
  have hT : s.TypeIs (.ref z) "zip" := ⟨_, hz, rfl⟩
  unfold pyNext
  exact wpAny_bind (wpAny_attempt (wpAny_callSpecial?_slot (name := Str.ofString "__next__") hT F.slot_zip_next
    (wpAny_call_entry F.slot_zip_next hT F.entry_zip_next
      (zipS_item D hz hTI hTO h1 h2 hl1 hx hy fun h' a1 a2 a3 a4 a5 a6 => wpAny_pure (hQ h' a1 a2 a3 a4 a5 a6)) (F.args_zip_next_1 _))))
/-- the list ends first, or with the text -/
theorem zipS_end {z TI TO i1 i2 l1 : Addr} {k1 : Nat} {xs : Array Value} {a b : Value} {Q : Fin → Shared → Prop} (hh : A.handled = none) (D : ZipApart z TI TO i1 i2 l1 l1)
    (hz : IsZip s.heap z TI TO .none) (hTI : IsPair s.heap TI (.ref i1) (.ref i2)) (hTO : IsPair s.heap TO a b)
    (h1 : s.heap.IsListIter i1 l1 k1) (hl1 : s.heap.IsList l1 xs) (hx : xs[k1]? = none)
    (hE : ∀ h' e, (∀ c o, c ≠ z → c ≠ TO → c ≠ i1 → c ≠ i2 → s.heap.get? c = some o → h'.get? c = some o) → (∃ o, h'.get? e = some o ∧ o.cls = .type "StopIteration") → E (.ref e) { s with heap := h' }) :
    wpAny (model prog w) A (Builtin.«zip.__next__» ⟨[.ref z], []⟩) Q E s := by
  show wpAny _ _ (field (.ref z) 2 >>= _) _ _ _
  refine wpAny_bind (wpAny_field hz rfl (x := .bool false) rfl ?_)
  show wpAny _ _ (field (.ref z) 3 >>= _) _ _ _
  refine wpAny_bind (wpAny_field hz rfl (x := .ref TI) rfl (wpAny_bind (wpAny_seqItems hTI rfl ?_)))
  show wpAny _ _ (Builtin.SmallTypes.ownedTupleIsFree (.ref z) >>= _) _ _ _
  refine wpAny_bind ?_
  unfold Builtin.SmallTypes.ownedTupleIsFree
  refine wpAny_bind (wpAny_field hz rfl (x := .none) rfl (wpAny_pure ?_))
  simp only [if_true]
  refine wpAny_bind (wpAny_rule (wpAny_bind (wpAny_field hz rfl (x := .ref TO) rfl (wpAny_bind (wpAny_setField_rec hz (by simp) fun H1 Z1 S1 => ?_)))))
  replace Z1 : IsZip H1 z TI TO .ellipsis := Z1
  refine wpAny_bind ?_
  simp only [List.zipIdx_cons, List.zipIdx_nil, List.forIn_cons, List.forIn_nil]
  refine wpAny_bind (wpAny_bind (wpAny_onRaise ?_))
  show wpAny _ _ (Builtin.SmallTypes.nextOf (.ref i1) >>= _) _ _ _
  refine wpAny_bind (wpAny_nextOf_list_end hh (h1.extBut S1.extBut D.i1z) (hl1.extBut S1.extBut D.l1z) hx fun H2 e S2 he => ?_)
  obtain ⟨oe, hoe, hce⟩ := he
  have Z2 : IsZip H2 z TI TO .ellipsis := S2 _ _ D.i1z.symm Z1
  have hez : e ≠ z := fun q => by subst q; rw [Z2] at hoe; cases hoe; simp at hce
  exact wpAny_setField_rec Z2 (by simp) fun H3 _ S3 => hE H3 e (fun c o c1 _ c3 _ q => S3.extBut _ _ c1 (S2 _ _ c3 (S1.extBut _ _ c1 q))) ⟨oe, S3.extBut _ _ hez hoe, hce⟩
theorem next_zipS_end {z TI TO i1 i2 l1 : Addr} {k1 : Nat} {xs : Array Value} {a b : Value} {Q : Option Value → Shared → Prop} (hh : A.handled = none) (D : ZipApart z TI TO i1 i2 l1 l1)
    (hz : IsZip s.heap z TI TO .none) (hTI : IsPair s.heap TI (.ref i1) (.ref i2)) (hTO : IsPair s.heap TO a b)
    (h1 : s.heap.IsListIter i1 l1 k1) (hl1 : s.heap.IsList l1 xs) (hx : xs[k1]? = none)
    (hQ : ∀ h', (∀ c o, c ≠ z → c ≠ TO → c ≠ i1 → c ≠ i2 → s.heap.get? c = some o → h'.get? c = some o) → Q none { s with heap := h' }) : wpAny (model prog w) A (pyNext (.ref z)) Q E s := by
  have hT : s.TypeIs (.ref z) "zip" := ⟨_, hz, rfl⟩
  unfold pyNext
  refine wpAny_bind (wpAny_attempt (wpAny_callSpecial?_slot (name := Str.ofString "__next__") hT F.slot_zip_next
    (wpAny_call_entry F.slot_zip_next hT F.entry_zip_next (zipS_end hh D hz hTI hTO h1 hl1 hx fun h' e hk he => ?_) (F.args_zip_next_1 _))))
  obtain ⟨o, ho, hc⟩ := he
  exact wpAny_bind (wpAny_isInstance (T := "StopIteration") (b := true) ⟨o, ho, hc⟩ isSubtype_stop (wpAny_pure (hQ _ hk)))
end
abbrev zsA (h : Heap) (l : Addr) : Heap := h.push { cls := .type "list_iterator", data := .fields #[.ref l, .int 0 0] }
abbrev zsB (h : Heap) (l : Addr) (y : Str) (t : Tok) : Heap := (zsA h l).push { cls := .type "str_ascii_iterator", data := .fields #[.str y t, .int 0 0] }
abbrev zsC (h : Heap) (l : Addr) (y : Str) (t : Tok) : Heap := (zsB h l y t).push { cls := .type "tuple", data := .seq #[.ref h.objs.size, .ref (zsA h l).objs.size] }
abbrev zsD (h : Heap) (l : Addr) (y : Str) (t : Tok) : Heap := (zsC h l y t).push { cls := .type "tuple", data := .seq #[.none, .none] }
abbrev zsE (h : Heap) (l : Addr) (y : Str) (t : Tok) : Heap := (zsD h l y t).push { cls := .type "zip", data := .fields #[.none, .bool false, .bool false, .ref (zsB h l y t).objs.size, .ref (zsC h l y t).objs.size] }
set_option maxHeartbeats 4000000 in
theorem meets_zipS (l : Addr) (xs : Array Value) (y : Str) (t : Tok) (ha : y.cps.all (· < 128) = true) :
    Meets (Builtin.«zip.__new__» ⟨[.type "zip", .ref l, .str y t], []⟩) (fun _ R s => s.heap.IsList l xs ∧
      R (.ok (.ret (.ref (zsD s.heap l y t).objs.size))) { s with heap := zsE s.heap l y t }) :=
  .of_wp fun prog w A R s h => by
    obtain ⟨hp, g, d, tk, os⟩ := s; obtain ⟨hl1, h⟩ := h
    have hsub := sub_zip
    have hL1 : Heap.IsList (Shared.heap ⟨hp, g, d, tk, os⟩) l xs := hl1
    wp_walk using wpAny_pyIter_list hL1, wpAny_pyIter_ascii ha
    exact ⟨_, rfl, h⟩
section
variable {prog : Program} {w : World} {A : Around} {E : Value → Shared → Prop} {s : Shared}
theorem call_zipS {l : Addr} {xs : Array Value} {y : Str} {t : Tok} {Q : Value → Shared → Prop} (ha : y.cps.all (· < 128) = true) (hl : s.heap.IsList l xs)
    (h : ∀ h', IsZip h' (s.heap.objs.size + 4) (s.heap.objs.size + 2) (s.heap.objs.size + 3) .none → IsPair h' (s.heap.objs.size + 2) (.ref s.heap.objs.size) (.ref (s.heap.objs.size + 1)) →
      IsPair h' (s.heap.objs.size + 3) .none .none → h'.IsListIter s.heap.objs.size l 0 → h'.IsStrIter (s.heap.objs.size + 1) SI y t 0 →
      (∀ c o, s.heap.get? c = some o → h'.get? c = some o) → Q (.ref (s.heap.objs.size + 4)) { s with heap := h' }) :
    wpAny (model prog w) A (call (.type "zip") [.ref l, .str y t]) Q E s := by
  refine callType_new F.called_zip (by decide) (F.typeCall_zip_2 _ _) (F.newCall_zip_2 _ _) (fun obj => F.args_object_init_3 obj _ _) F.entry_zip_new
    (meets_zipS l xs y t ha) ⟨hl, ?_⟩
  have z1 : (zsA s.heap l).objs.size = s.heap.objs.size + 1 := Heap.size_push ..
  have z2 : (zsB s.heap l y t).objs.size = s.heap.objs.size + 2 := by rw [Heap.size_push, z1]
  have z3 : (zsC s.heap l y t).objs.size = s.heap.objs.size + 3 := by rw [Heap.size_push, z2]
  have z4 : (zsD s.heap l y t).objs.size = s.heap.objs.size + 4 := by rw [Heap.size_push, z3]
  have g5 : (zsE s.heap l y t).get? (zsD s.heap l y t).objs.size = some _ := Heap.get?_push_size _ rfl
  have g4 : (zsE s.heap l y t).get? (zsC s.heap l y t).objs.size = some _ := Heap.get?_push_of_some _ (Heap.get?_push_size _ rfl)
  have g3 : (zsE s.heap l y t).get? (zsB s.heap l y t).objs.size = some _ := Heap.get?_push_of_some _ (Heap.get?_push_of_some _ (Heap.get?_push_size _ rfl))
  have g2 : (zsE s.heap l y t).get? (zsA s.heap l).objs.size = some _ := Heap.get?_push_of_some _ (Heap.get?_push_of_some _ (Heap.get?_push_of_some _ (Heap.get?_push_size _ rfl)))
  have g1 : (zsE s.heap l y t).get? s.heap.objs.size = some _ := Heap.get?_push_of_some _ (Heap.get?_push_of_some _ (Heap.get?_push_of_some _ (Heap.get?_push_of_some _ (Heap.get?_push_size _ rfl))))
  show _ ∧ _
  rw [z2, z3, z4] at g5
  rw [z1, z2] at g3
  rw [z3] at g4
  rw [z1] at g2
  rw [z4]
  exact ⟨⟨_, g5, rfl⟩, h _ g5 g3 g4 ⟨_, g1, rfl, rfl⟩ ⟨_, g2, rfl, rfl⟩ fun c o q =>
    Heap.get?_push_of_some _ (Heap.get?_push_of_some _ (Heap.get?_push_of_some _ (Heap.get?_push_of_some _ (Heap.get?_push_of_some _ q))))⟩
end
end L2

namespace L2
open PySem PySem.Spec PyProof.Rows
def signs (y : Str) : List V := (List.range y.cps.size).map (signAt y)
def ItzS (K : PySem.W.Frag) (a : Addr) (y : Str) : It :=
  ⟨fun i H => ∃ xs x, SqL K H a xs ∧ xs[i]? = some x ∧ i < y.cps.size,
   fun i H v H' => ∃ t, v = .ref t ∧ H t = none ∧ ∃ x, H' = upd H t (.tup [x, signAt y i]) ∧ (∀ xs, SqL K H a xs → xs[i]? = some x),
   fun i H => ∃ xs, SqL K H a xs ∧ xs.length ≤ i⟩
section
variable {X : Cx}
theorem zipApartS {h : Heap} {a z TI TO i1 i2 : Addr} {u v : Value} {k1 k2 : Nat} {xs : Array Value} {y : Str} {tk : Tok} (nd : [z, TI, TO, i1, i2].Nodup) (hz : IsZip h z TI TO .none) (hT : IsPair h TI (.ref i1) (.ref i2)) (hO : IsPair h TO u v)
    (h1 : h.IsListIter i1 a k1) (h2 : h.IsStrIter i2 SI y tk k2) (p : PlainL h a xs) : ZipApart z TI TO i1 i2 a a := by
  obtain ⟨o1, e1, c1, d1⟩ := h1
  obtain ⟨o2, e2, c2, d2⟩ := h2
  obtain ⟨o3, n3, e3, c3, _, d3⟩ := p
  simp only [List.nodup_cons, List.mem_cons, List.mem_nil_iff, or_false, not_or, List.nodup_nil, and_true, not_false_eq_true] at nd
  obtain ⟨⟨n1, n2, n3', n4'⟩, ⟨n5, n6, n7⟩, ⟨n8, n9⟩, n10⟩ := nd
  have A3 : ∀ {x : Addr} {o : Obj}, h.get? x = some o → o.cls ≠ .type "list" → a ≠ x := fun {x o} e hc q => by
    subst q; rw [e] at e3; cases e3; exact hc c3
  exact ⟨Ne.symm n1, Ne.symm n2, Ne.symm n3', Ne.symm n4', n5, n6, n7, n8, n9, n10, A3 hz (by show Value.type "zip" ≠ .type "list"; decide), A3 hO (by show Value.type "tuple" ≠ .type "list"; decide), A3 e1 (by rw [c1]; decide), A3 e2 (by rw [c2]; decide), A3 hz (by show Value.type "zip" ≠ .type "list"; decide), A3 hO (by show Value.type "tuple" ≠ .type "list"; decide), A3 e1 (by rw [c1]; decide), A3 e2 (by rw [c2]; decide)⟩
theorem turn_zipS {P : Program} {w : World} {K : PySem.W.Frag} {elts : List Expr} {k : Nat} {pos : Pos} (a z TI TO i1 i2 : Addr) (w2 : Str) (tk : Tok) (nd : [z, TI, TO, i1, i2].Nodup) :
    Turn P w K (.Tuple elts k pos) (ItzS K a w2) [z, TI, TO, i1, i2] z (fun i h => IsZip h z TI TO .none ∧ IsPair h TI (.ref i1) (.ref i2) ∧ (∃ u v, IsPair h TO u v) ∧ h.IsListIter i1 a i ∧ h.IsStrIter i2 SI w2 tk i) where
  mem := by simp
  obj := fun i h st c hc => by
    obtain ⟨hz, hT, ⟨u, v, hO⟩, ⟨o1, e1, c1, d1⟩, ⟨o2, e2, c2, d2⟩⟩ := st
    simp only [List.mem_cons, List.mem_nil_iff, or_false] at hc
    rcases hc with rfl | rfl | rfl | rfl | rfl
    · exact ⟨_, hz, fun v z => nomatch z⟩
    · exact ⟨_, hT, fun v z => nomatch z⟩
    · exact ⟨_, hO, fun v z => nomatch z⟩
    · exact ⟨_, e1, fun v z => by rw [d1] at z; cases z⟩
    · exact ⟨_, e2, fun v z => by rw [d2] at z; cases z⟩
  keep := fun i h h' st kk => by
    obtain ⟨hz, hT, ⟨u, v, hO⟩, h1, h2⟩ := st
    exact ⟨kk z (by simp) _ hz, kk TI (by simp) _ hT, ⟨u, v, kk TO (by simp) _ hO⟩, h1.at fun o e => kk i1 (by simp) o e, (let ⟨o, e, r⟩ := h2; ⟨o, kk i2 (by simp) o e, r⟩)⟩
  item := by
    intro X hP hw hK hc i pins s σ H E I hf st hg
    subst hP hw hK
    obtain ⟨xs, x, hqa, hx, hy⟩ := hg
    have hyc : w2.cps[i]? = some w2.cps[i] := Array.getElem?_eq_getElem hy
    obtain ⟨hz, hT, ⟨u0, v0, hO⟩, h1, h2⟩ := id st
    obtain ⟨its, rv, p, _⟩ := I.list hqa
    obtain ⟨u, hu, ru⟩ := rv.get hx
    have rv' : RelV (signAt w2 i) (.str ⟨#[w2.cps[i]]⟩ s.toks) := ⟨s.toks, by
      have : w2.cps.getD i 0 = w2.cps[i] := by rw [Array.getD_eq_getD_getElem?, hyc]; rfl
      rw [this]⟩
    have D : ZipApart z TI TO i1 i2 a a := zipApartS nd hz hT hO h1 h2 p
    refine next_zipS D hz hT hO h1 h2 p.isList (x := u) (by simpa using hu) hyc fun h' a1 a2 a3 a4 a5 kk => ?_
    refine ⟨_, rfl, wpAny_letOwnedTupleGo_zip a1 fun h'' b1 sb => ?_⟩
    have nT : ∀ c ∈ [z, TI, TO, i1, i2], c ≠ s.heap.objs.size := fun c hc => by
      obtain ⟨o, e, _⟩ := (show ∀ c ∈ [z, TI, TO, i1, i2], ∃ o, s.heap.get? c = some o ∧ True from fun c hc => by
        simp only [List.mem_cons, List.mem_nil_iff, or_false] at hc
        obtain ⟨o1, e1, _⟩ := h1
        obtain ⟨o2, e2, _⟩ := h2
        rcases hc with rfl | rfl | rfl | rfl | rfl
        · exact ⟨_, hz, trivial⟩
        · exact ⟨_, hT, trivial⟩
        · exact ⟨_, hO, trivial⟩
        · exact ⟨_, e1, trivial⟩
        · exact ⟨_, e2, trivial⟩) c hc
      exact Nat.ne_of_lt (Heap.lt_size e)
    have fr : H s.heap.objs.size = none := I.fresh
    have kp : ∀ c o, c ∉ [z, TO, i1, i2] → s.heap.get? c = some o → h''.get? c = some o := fun c o hc e => by
      simp only [List.mem_cons, List.mem_nil_iff, or_false, not_or] at hc
      exact (sb.2 c hc.1).trans (kk c o hc.1 hc.2.1 hc.2.2.1 hc.2.2.2 e)
    have fpn : ∀ c ∈ [z, TO, i1, i2], H c = none := fun c hc => by
      simp only [List.mem_cons, List.mem_nil_iff, or_false] at hc
      rcases hc with rfl | rfl | rfl | rfl <;> exact (hf _ (by simp)).1
    have I1 : Inv X pins σ (upd H s.heap.objs.size (.tup [x, signAt w2 i])) { s with heap := h'', toks := s.toks + 1 } := by
      refine I.step (g' := s.gens) (d' := s.drawn) (t' := s.toks + 1) (ch := [z, TO, i1, i2]) (fun c hc => ?_) (fun c o _ _ hc e _ => kp c o hc e) (fun c o _ _ hc e _ => ⟨o.slots, kp c o hc e⟩) (fun c o hc e n => ?_) (fun c o hc e => ⟨o, kp c o hc e⟩)
        (fun c us e => ?_) (fun c o us e => ?_) (fun c us e => ⟨#[], ?_⟩) (fun m hm => ?_) (fun c us e => ?_) I.bare
      · simp only [List.mem_cons, List.mem_nil_iff, or_false] at hc
        have : c ∈ [z, TI, TO, i1, i2] := by
          simp only [List.mem_cons, List.mem_nil_iff, or_false]
          rcases hc with q | q | q | q
          · exact .inl q
          · exact .inr (.inr (.inl q))
          · exact .inr (.inr (.inr (.inl q)))
          · exact .inr (.inr (.inr (.inr q)))
        obtain ⟨f0, f1, f2, f3, f4, f5⟩ := hf c this
        exact ⟨f3, f1, f4, f5⟩
      · rw [upd_ne (Nat.ne_of_lt (Heap.lt_size e))]; exact n
      · rw [upd_ne (ne_of_none e fr)]; exact e
      · rw [upd_ne (ne_of_none e fr)]; exact e
      · rw [upd_ne (ne_of_none e fr), e]; simp
      · obtain ⟨o, es, ep, ho, r⟩ := hm
        refine ⟨o, es, ep, kp _ o (fun q => ?_) ho, r⟩
        simp only [List.mem_cons, List.mem_nil_iff, or_false] at q
        rcases q with q | q | q | q
        · exact (hf z (by simp)).2.1 q.symm
        · exact (hf TO (by simp)).2.1 q.symm
        · exact (hf i1 (by simp)).2.1 q.symm
        · exact (hf i2 (by simp)).2.1 q.symm
      · by_cases hcT : c = s.heap.objs.size
        · subst hcT
          rw [upd_same] at e
          cases e
          have e5 : h''.get? s.heap.objs.size = some { cls := .type "tuple", data := .seq #[u, .str ⟨#[w2.cps[i]]⟩ s.toks] } := (sb.2 _ (Ne.symm (nT z (by simp)))).trans a5
          exact ⟨(by show 2 ≤ sizeLine; decide), [u, .str ⟨#[w2.cps[i]]⟩ s.toks], .cons ru (.cons rv' .nil), _, e5, rfl, _, rfl⟩
        · rw [upd_ne hcT] at e
          refine (I.hok c us e).stay (fun d w' hd q => kp d w' (fun q2 => ?_) q) (fun d q => ?_) fun d ws q => ?_
          · have z1 := fpn d q2
            rcases hd with y1 | y1
            · rw [y1, e] at z1; cases z1
            · rw [y1] at z1; cases z1
          · rw [upd_ne (ne_of_none q fr)]; exact q
          · rw [upd_ne (ne_of_none q fr)]; exact q
    refine ⟨.ref s.heap.objs.size, _, I1, rfl, ⟨_, rfl, fr, x, rfl, fun zs hz' => by rw [I.list_inj hz' hqa]; exact hx⟩, ?_, fun c hc => ?_⟩
    · refine ⟨b1, ?_, ⟨u, .str ⟨#[w2.cps[i]]⟩ s.toks, ?_⟩, ?_, ?_⟩
      · exact kp TI _ (by simp only [List.nodup_cons, List.mem_cons, List.mem_nil_iff, or_false, not_or] at nd ⊢; exact ⟨fun q => nd.1.1 q.symm, nd.2.1⟩) hT
      · exact (sb.2 _ D.TOz).trans a2
      · exact a3.extBut sb.extBut D.i1z
      · exact a4.extBut sb.extBut D.i2z
    · rw [upd_ne (nT c hc)]; exact (hf c hc).1
  done := by
    intro X hP hw hK hc i pins s σ H E I hf st hg
    subst hP hw hK
    obtain ⟨xs, hqa, hend⟩ := hg
    obtain ⟨hz, hT, ⟨u0, v0, hO⟩, h1, h2⟩ := id st
    obtain ⟨its, rv, p, _⟩ := I.list hqa
    have D : ZipApart z TI TO i1 i2 a a := zipApartS nd hz hT hO h1 h2 p
    have l1 := rv.length
    refine next_zipS_end (I.ok.hd hc) D hz hT hO h1 p.isList (by simp; omega) fun h' kk => ⟨rfl, ?_⟩
    have kp : ∀ c o, c ∉ [z, TO, i1, i2] → s.heap.get? c = some o → h'.get? c = some o := fun c o hc e => by
      simp only [List.mem_cons, List.mem_nil_iff, or_false, not_or] at hc
      exact kk c o hc.1 hc.2.1 hc.2.2.1 hc.2.2.2 e
    have fpn : ∀ c ∈ [z, TO, i1, i2], H c = none := fun c hc => by
      simp only [List.mem_cons, List.mem_nil_iff, or_false] at hc
      rcases hc with rfl | rfl | rfl | rfl <;> exact (hf _ (by simp)).1
    refine I.step (g' := s.gens) (d' := s.drawn) (t' := s.toks) (ch := [z, TO, i1, i2]) (fun c hc => ?_) (fun c o _ _ hc e _ => kp c o hc e) (fun c o _ _ hc e _ => ⟨o.slots, kp c o hc e⟩) (fun c o hc e n => n) (fun c o hc e => ⟨o, kp c o hc e⟩)
      (fun c us e => e) (fun c o us e => e) (fun c us e => ⟨#[], by rw [e]; simp⟩) (fun m hm => ?_) (fun c us e => ?_) I.bare
    · simp only [List.mem_cons, List.mem_nil_iff, or_false] at hc
      have : c ∈ [z, TI, TO, i1, i2] := by
        simp only [List.mem_cons, List.mem_nil_iff, or_false]
        rcases hc with q | q | q | q
        · exact .inl q
        · exact .inr (.inr (.inl q))
        · exact .inr (.inr (.inr (.inl q)))
        · exact .inr (.inr (.inr (.inr q)))
      obtain ⟨f0, f1, f2, f3, f4, f5⟩ := hf c this
      exact ⟨f3, f1, f4, f5⟩
    · obtain ⟨o, es, ep, ho, r⟩ := hm
      refine ⟨o, es, ep, kp _ o (fun q => ?_) ho, r⟩
      simp only [List.mem_cons, List.mem_nil_iff, or_false] at q
      rcases q with q | q | q | q
      · exact (hf z (by simp)).2.1 q.symm
      · exact (hf TO (by simp)).2.1 q.symm
      · exact (hf i1 (by simp)).2.1 q.symm
      · exact (hf i2 (by simp)).2.1 q.symm
    · refine (I.hok c us e).stay (fun d w' hd q => kp d w' (fun q2 => ?_) q) (fun d q => q) fun d ws q => q
      have z1 := fpn d q2
      rcases hd with y1 | y1
      · rw [y1, e] at z1; cases z1
      · rw [y1] at z1; cases z1
  self := fun _ _ _ _ _ st h => wpAny_pyIter_zip st.1 h
def iZipS (K : PySem.W.Frag) (ta : TA) : TI := fun σ H R => ta σ H fun vs H1 => ∃ a y, vs = [.ref a, .str y] ∧ (∃ xs, SqL K H1 a xs) ∧ y.cps.all (· < 128) = true ∧ R (ItzS K a y) H1
theorem pi_zipS {elts : List Expr} {k : Nat} {tpos : Pos} {a b : Expr} {ta : TA} {p pos : Pos} (hg : Gl X "zip") (hm : X.mg "zip" = none) (ha : PA X [a, b] ta) (hs : starEach [a, b] X.env = [(false, eval a X.env), (false, eval b X.env)] := by rfl) (hs2 : starEach [b] X.env = [(false, eval b X.env)] := by rfl) :
    PI X (.Tuple elts k tpos) (.Call (.Name "zip" p) [a, b] [] pos) (iZipS X.K ta) := by
  intro pins s σ H R I h
  refine Call_ (ld_blt I hg hm boot_zip (PyProof.Rows.callWith_type1 (thn (ha pos pins s σ H _ I h) fun us s1 ⟨vs, H1, I1, r1, q1⟩ => ?_) (by rw [hs, hs2]) (by rw [hs2]; rfl)))
  obtain ⟨x, y, e, ⟨xs, hx⟩, hasc, q⟩ := q1
  subst e
  obtain ⟨u, v, rfl, ru, rv⟩ := vals2 r1
  cases ru
  obtain ⟨tk, rfl⟩ := rv
  obtain ⟨its, rvx, px, _⟩ := I1.list hx
  refine call_zipS hasc px.isList fun h' a1 a2 a3 a4 a5 kk => wpAny_pyIter_zip a1 ?_
  refine ⟨s1.heap.objs.size + 4, [s1.heap.objs.size + 4, s1.heap.objs.size + 2, s1.heap.objs.size + 3, s1.heap.objs.size, s1.heap.objs.size + 1], _, _, H1, rfl, I1.kept (t' := s1.toks) kk, turn_zipS x _ _ _ _ _ y tk ?_, ⟨a1, a2, ⟨_, _, a3⟩, a4, a5⟩, fun b hb => ?_, q⟩
  · generalize s1.heap.objs.size = n
    simp only [List.nodup_cons, List.mem_cons, List.mem_nil_iff, or_false, not_or, List.nodup_nil, and_true, not_false_eq_true]
    refine ⟨⟨?_, ?_, ?_, ?_⟩, ⟨?_, ?_, ?_⟩, ⟨?_, ?_⟩, ?_⟩ <;> (intro h; have h' : (_ : Nat) = _ := h; omega)
  · simp only [List.mem_cons, List.mem_nil_iff, or_false] at hb
    have hl : s1.heap.objs.size ≤ b := by
      rcases hb with h | h | h | h | h <;> rw [h] <;> first | exact Nat.le_add_right _ _ | exact Nat.le_refl _
    exact I1.fpOk hl (I1.hok.fresh hl)


end
section
variable {K : PySem.W.Frag} {ix : List (Option Nat)} {te ta tb : TE} {tt : TA} {g : TG} {tf : TT} {σ : St} {H H1 : Hp} {Q : Addr → Hp → Prop} {R : VK}
theorem comp_zipS_idx {a : Addr} {xs : List V} {w2 : Str} {i₀ j₀ : Nat} (f : Nat → V) (ha : SqL K H1 a xs) (hl : xs.length = w2.cps.size) (hz : xs.length ≤ sizeLine)
    (hs : ∀ (i : Nat) (x y : V) (H : Hp) (R : VK), xs[i]? = some x → i < w2.cps.size → y = signAt w2 i → Same H1 H → (∀ H6, Same H H6 → R (f i) H6) → te (((capt ix σ).set i₀ (some x)).set j₀ (some y)) H R)
    (hd : ∀ D H, H1 D = none → Same H1 H → H D = some (.lst ((List.range xs.length).map f)) → Q D H) : CompW (ItzS K a w2) ix (gTup K 2 (gCons (gName i₀) (gCons (gName j₀) gNil))) tYes te σ H1 Q := by
  intro D hD
  refine ⟨fun i m zs H => m = xs.length - i ∧ i ≤ xs.length ∧ Same H1 H ∧ zs = (List.range i).map f, ⟨xs.length, by simp, Nat.zero_le _, Same.new hD _, by simp⟩, ?_⟩
  rintro i m zs H ⟨rfl, hi, sm, p⟩ hDl
  by_cases hlt : i < xs.length
  · have hx : xs[i]? = some xs[i] := List.getElem?_eq_getElem hlt
    have hy : (signs w2)[i]? = some (signAt w2 i) := by
      have hlt2 : i < w2.cps.size := by omega
      simp [signs, List.getElem?_range hlt2, hlt2]
    refine .inr ⟨⟨xs, xs[i], sm.seq ha, hx, by omega⟩, fun v H3 y => ?_⟩
    obtain ⟨t, rfl, ht, x', rfl, ex⟩ := y
    have ex' := ex xs (sm.seq ha)
    rw [hx] at ex'
    cases ex'
    have sT : Same H (upd H t (.tup [xs[i], signAt w2 i])) := Same.new ht _
    refine ⟨t, _, rfl, SqT.of upd_same, rfl, xs[i], _, rfl, signAt w2 i, _, rfl, rfl, ?_⟩
    show te _ _ _
    refine hs i _ _ _ _ hx (by omega) rfl (sm.trans sT) fun H6 r1 => ?_
    refine ⟨r1 _ _ (sT _ _ hDl), ?_, xs.length - (i + 1), by omega, rfl, hlt, ((sm.trans sT).trans r1).put hD _, ?_⟩
    · rw [p, List.length_map, List.length_range]; omega
    · rw [p, List.range_succ, List.map_append]; rfl
  · have e : i = xs.length := by omega
    subst e
    refine .inl ⟨⟨xs, sm.seq ha, Nat.le_refl _⟩, hd D H hD sm ?_⟩
    rw [hDl, p]
theorem comp_zip_idx {a b : Addr} {xs ys : List V} {i₀ j₀ : Nat} (f : Nat → V) (ha : SqL K H1 a xs) (hb : SqL K H1 b ys) (hl : xs.length = ys.length) (hz : xs.length ≤ sizeLine)
    (hs : ∀ (i : Nat) (x y : V) (H : Hp) (R : VK), xs[i]? = some x → ys[i]? = some y → Same H1 H → (∀ H6, Same H H6 → R (f i) H6) → te (((capt ix σ).set i₀ (some x)).set j₀ (some y)) H R)
    (hd : ∀ D H, H1 D = none → Same H1 H → H D = some (.lst ((List.range xs.length).map f)) → Q D H) : CompW (Itz K a b) ix (gTup K 2 (gCons (gName i₀) (gCons (gName j₀) gNil))) tYes te σ H1 Q := by
  intro D hD
  refine ⟨fun i m zs H => m = xs.length - i ∧ i ≤ xs.length ∧ Same H1 H ∧ zs = (List.range i).map f, ⟨xs.length, by simp, Nat.zero_le _, Same.new hD _, by simp⟩, ?_⟩
  rintro i m zs H ⟨rfl, hi, sm, p⟩ hDl
  by_cases hlt : i < xs.length
  · have hx : xs[i]? = some xs[i] := List.getElem?_eq_getElem hlt
    have hy : ys[i]? = some ys[i] := List.getElem?_eq_getElem (by omega)
    refine .inr ⟨⟨xs, ys, xs[i], ys[i], sm.seq ha, sm.seq hb, hx, hy⟩, fun v H3 y => ?_⟩
    obtain ⟨t, rfl, ht, x', y', rfl, ex, ey⟩ := y
    have ex' := ex xs (sm.seq ha)
    have ey' := ey ys (sm.seq hb)
    rw [hx] at ex'; rw [hy] at ey'
    cases ex'; cases ey'
    have sT : Same H (upd H t (.tup [xs[i], ys[i]])) := Same.new ht _
    refine ⟨t, _, rfl, SqT.of upd_same, rfl, xs[i], _, rfl, ys[i], _, rfl, rfl, ?_⟩
    show te _ _ _
    refine hs i _ _ _ _ hx hy (sm.trans sT) fun H6 r1 => ?_
    refine ⟨r1 _ _ (sT _ _ hDl), ?_, xs.length - (i + 1), by omega, rfl, hlt, ((sm.trans sT).trans r1).put hD _, ?_⟩
    · rw [p, List.length_map, List.length_range]; omega
    · rw [p, List.range_succ, List.map_append]; rfl
  · have e : i = xs.length := by omega
    subst e
    refine .inl ⟨⟨xs, ys, sm.seq ha, sm.seq hb, .inl (Nat.le_refl _)⟩, hd D H hD sm ?_⟩
    rw [hDl, p]
theorem tcompZS {a : Addr} {y : Str} {xs : List V} (h : Ga tt σ H [.ref a, .str y]) (ha : SqL K H a xs) (hy : y.cps.all (· < 128) = true) (k : ∀ H', Same H H' → SqL K H' a xs → CompW (ItzS K a y) ix g tf te σ H' fun D' H2 => R (.ref D') H2) : tComp (iZipS K tt) ix g tf te σ H R :=
  h _ fun H' s => ⟨a, y, rfl, ⟨xs, s.seq ha⟩, hy, k H' s (s.seq ha)⟩

end
section
variable {X : Cx} (K : PySem.W.Frag)
theorem kiZipS {elts : List Expr} {k : Nat} {tpos : Pos} {a b : Expr} {t : TA} {p pos : Pos} (hm : X.mg "zip" = none) (ha : PA X [a, b] t) (h : X.K = K := by rfl) (hg : Gl X "zip" := by rfl) (hs : starEach [a, b] X.env = [(false, eval a X.env), (false, eval b X.env)] := by rfl) (hs2 : starEach [b] X.env = [(false, eval b X.env)] := by rfl) :
    PI X (.Tuple elts k tpos) (.Call (.Name "zip" p) [a, b] [] pos) (iZipS K t) := h ▸ pi_zipS hg hm ha hs hs2
end
end L2

set_option maxHeartbeats 1000000
namespace K02
open PySem PySem.Spec PyProof.Rows L2
section
variable {P : Program} {w : World} {K : PySem.W.Frag} {mg : Str → Option Value} {base : Heap} {t : Ad}
def standB (x : Str) (m : Int) (l : Str) : Bool := (decide (0 ≤ m) && decide (m < x.length)) && decide (V.str ⟨#[x.cps.getD m.toNat 0]⟩ = V.str l)
def sp_stands : Sp := fun vs H Q _ => ∃ (x : Str) (m : Int) (l : Str), vs = [.str x, .int m, .str l] ∧ x.length ≤ 60 ∧ ∀ H', Same H H' → Q (.bl (standB x m l)) H'
theorem atI_in {x : Str} {m : Int} (h0 : 0 ≤ m) (h1 : m < x.length) : atI x.cps.toList m = some (x.cps.getD m.toNat 0) := by
  obtain ⟨j, rfl⟩ := Int.eq_ofNat_of_zero_le h0
  have hj : j < x.cps.size := by
    have : (j : Int) < (x.cps.size : Int) := h1
    omega
  refine atI_nat (j := j) ?_
  show x.cps.toList[j]? = some (x.cps.getD j 0)
  rw [Array.getElem?_toList, Array.getD_eq_getD_getElem?, Array.getElem?_eq_getElem hj]
  rfl
theorem sc_stands_for : FnScope ["letters", "mark", "letter"] ["letters", "mark", "letter"] (defScope s_stands_for) := ⟨rfl, rfl, rfl, by decide +kernel, rfl, by decide +kernel, by decide +kernel⟩
theorem ok_stands_for (T : Txt K mg t) : FnOk P w K mg base CX0 1 t.f_stands_for t.d_stands_for ["letters", "mark", "letter"] sp_stands := by
  refine T.stands_for.fn.ok sc_stands_for (fun vs H Q E h => ?_) (fun cdv A outer s H vs Q E hr h => ?_)
  · obtain ⟨x, m, l, rfl, _⟩ := h
    rfl
  obtain ⟨x, m, l, rfl, hl, k⟩ := h
  refine ⟨_, (pss_one (ps_ret (pe_and (pe_chain op_le op_lt pe_int (pv 1) (pe_callB (kLen K) (by rfl) T.n_len boot_len (pa_cons (pv 0) pa_nil))) (pe_one (pe_cmpR op_eq (pe_ix ix_str (pv 0) (pv 1) (fun _ _ => rfl)) (pv 2) (nomark _)))))), ?_⟩
  refine rs_ret (v := .bl (standB x m l)) (gv_and (gv_chain gv_c (fun _ _ => gv_var (by rfl)) fun _ _ => gv_lenS (K := K) (ga_1 (gv_var (by rfl))) (small (by omega))) fun c H1 s1 => ?_) fun H1 s1 => k H1 s1
  have c' : 0 ≤ m ∧ m < x.length := by simpa using c
  exact gv_eqI (gv_ixS (gv_var (by rfl)) (fun _ _ => gv_var (by rfl)) (small (by omega)) (atI_in c'.1 c'.2)) (fun _ _ => gv_var (by rfl)) (by rfl)
def sgn (y : Str) (i : Nat) : Str := ⟨#[y.cps.getD i 0]⟩
def rowFitB (x y : Str) (ms : List Int) : Bool := decide (ms.length = y.cps.size) && (List.range ms.length).all fun i => standB x (ms.getD i 0) (sgn y i)
def sp_row_fits (K : PySem.W.Frag) : Sp := fun vs H Q _ => ∃ (x y : Str) (a : Addr) (ms : List Int), vs = [.str x, .str y, .ref a] ∧ SqL K H a (ms.map V.int) ∧ x.length ≤ 60 ∧ y.length ≤ 40 ∧ y.cps.all (· < 128) = true ∧ ∀ H', Same H H' → Q (.bl (rowFitB x y ms)) H'
theorem sc_row_fits : FnScope ["letters", "text", "marks"] ["letters", "text", "marks"] (defScope s_row_fits) := ⟨rfl, rfl, rfl, by decide +kernel, rfl, by decide +kernel, by decide +kernel⟩
theorem ok_row_fits (T : Txt K mg t) : FnOk P w K mg base CX0 2 t.f_row_fits t.d_row_fits ["letters", "text", "marks"] (sp_row_fits K) := by
  have G_stands_for : FnOk P w K mg base CX0 1 t.f_stands_for t.d_stands_for ["letters", "mark", "letter"] sp_stands := ok_stands_for T
  refine T.row_fits.fn.ok sc_row_fits (fun vs H Q E h => ?_) (fun cdv A outer s H vs Q E hr h => ?_)
  · obtain ⟨x, y, a, ms, rfl, _⟩ := h
    rfl
  obtain ⟨x, y, a, ms, rfl, hq, hx, hy, hasc, k⟩ := h
  refine ⟨_, (pss_cons (ps_if (pt_cmpR op_ne (pe_callB (kLen K) (by rfl) T.n_len boot_len (pa_cons (pv 2) pa_nil)) (pe_callB (kLen K) (by rfl) T.n_len boot_len (pa_cons (pv 1) pa_nil)) (nomark _)) (pss_one (ps_ret pe_bl)) pss_nil) (pss_one (ps_ret (pe_callB (kAll K) (by rfl) T.n_all boot_all (pa_cons (pe_comp (N' := ["mark", "letter", "letters"]) (ix := [none, none, some 0]) (compScope_of (by kernel_rfl)) rfl (kiZipS K T.n_zip (pa_cons (pv 2) (pa_cons (pv 1) pa_nil))) (fun _ _ _ _ => (kgTup K (n := 2) (pgs_cons (pg_name (i := 0) (show List.Nodup (["mark", "letter", "letters"] : List Str) from by decide +kernel) rfl (by first | exact Or.inl rfl | exact Or.inr rfl)) (pgs_cons (pg_name (i := 1) (show List.Nodup (["mark", "letter", "letters"] : List Str) from by decide +kernel) rfl (by first | exact Or.inl rfl | exact Or.inr rfl)) pgs_nil)))) (fun _ _ _ _ => pf_nil) (fun _ _ _ _ => (pe_callD T.stands_for G_stands_for (hr.mono (by first | decide | omega)) pass0 (pa_cons (pv 2) (pa_cons (pv 0) (pa_cons (pv 1) pa_nil)))))) pa_nil))))), ?_⟩
  refine rq_if (b := !decide (ms.length = y.cps.size)) (gt_eq (gt_test (gv_neI (gv_lenL (K := K) (ga_1 (gv_var (by rfl))) hq) (fun _ _ => gv_lenS (K := K) (ga_1 (gv_var (by rfl))) (small (by omega))) (by rfl))) ?_) (fun c H1 s1 => ?_) fun c H1 s1 => ?_
  · rw [List.length_map]
    congr 1
    simp [Str.length]
    omega
  · have e : rowFitB x y ms = false := by
      unfold rowFitB
      rw [Bool.not_eq_true'] at c
      rw [c, Bool.false_and]
    have := k H1 s1
    rw [e] at this
    exact this
  have c' : ms.length = y.cps.size := by simpa using c
  have hyl : y.cps.size ≤ 40 := hy
  refine rs_ret' (tcb1 (tcompZS (K := K) (ga_cons (gv_var (by rfl)) fun _ _ => ga_1 (gv_var (by rfl))) (s1.seq hq) hasc fun H2 s2 hq2 => ?_))
  refine comp_zipS_idx (fun i => .bl (standB x (ms.getD i 0) (sgn y i))) hq2 (by rw [List.length_map]; exact c') (small (by rw [List.length_map]; omega)) (fun i v l H3 R hv hi hl s3 k3 => ?_) fun D H3 hD s3 hDl => ?_
  · obtain ⟨m, rfl, _, hm⟩ := ints_at hv
    have em : ms.getD i 0 = m := by rw [List.getD_eq_getElem?_getD, hm]; rfl
    subst hl
    rw [em] at k3
    exact gv_to (gv_call (ga_cons (gv_var (by rfl)) fun _ _ => ga_cons (gv_var (by rfl)) fun _ _ => ga_1 (gv_var (by rfl))) fun H4 R4 s4 k4 => ⟨x, m, sgn y i, rfl, hx, k4⟩) fun H4 s4 => k3 H4 s4
  · refine ⟨D, (List.range (ms.map V.int).length).map fun i => standB x (ms.getD i 0) (sgn y i), rfl, SqL.of (by rw [hDl, List.map_map]; rfl), ?_⟩
    have e : (((List.range (ms.map V.int).length).map fun i => standB x (ms.getD i 0) (sgn y i)).all fun b => b) = rowFitB x y ms := by
      unfold rowFitB
      rw [decide_eq_true c', Bool.true_and, List.all_map, List.length_map]
      rfl
    rw [e]
    exact k _ (s1.trans (s2.trans s3))
def fitB (x : Str) (p : List Str) (rows : List (List Int)) : Bool := decide (rows.length = p.length) && (List.range p.length).all fun i => rowFitB x (p.getD i ⟨#[]⟩) (rows.getD i [])
structure Pic (p : List Str) : Prop where
  few : p.length ≤ 40
  short : ∀ r ∈ p, r.length ≤ 40
  plain : ∀ r ∈ p, r.cps.all (· < 128) = true
def sp_rows_fit (K : PySem.W.Frag) : Sp := fun vs H Q _ => ∃ (x : Str) (b a : Addr) (p : List Str) (rows : List (List Int)), vs = [.str x, .ref b, .ref a] ∧ SqL K H b (p.map V.str) ∧ RowsAt K H a rows ∧ x.length ≤ 60 ∧ Pic p ∧ ∀ H', Same H H' → Q (.bl (fitB x p rows)) H'
theorem sc_rows_fit : FnScope ["letters", "picture", "rows"] ["letters", "picture", "rows"] (defScope s_rows_fit) := ⟨rfl, rfl, rfl, by decide +kernel, rfl, by decide +kernel, by decide +kernel⟩
theorem ok_rows_fit (T : Txt K mg t) : FnOk P w K mg base CX0 3 t.f_rows_fit t.d_rows_fit ["letters", "picture", "rows"] (sp_rows_fit K) := by
  have G_row_fits : FnOk P w K mg base CX0 2 t.f_row_fits t.d_row_fits ["letters", "text", "marks"] (sp_row_fits K) := ok_row_fits T
  refine T.rows_fit.fn.ok sc_rows_fit (fun vs H Q E h => ?_) (fun cdv A outer s H vs Q E hr h => ?_)
  · obtain ⟨x, b, a, p, rows, rfl, _⟩ := h
    rfl
  obtain ⟨x, b, a, p, rows, rfl, hb, ⟨rs, hq, hrs, rfl⟩, hx, hp, k⟩ := h
  refine ⟨_, (pss_cons (ps_if (pt_cmpR op_ne (pe_callB (kLen K) (by rfl) T.n_len boot_len (pa_cons (pv 2) pa_nil)) (pe_callB (kLen K) (by rfl) T.n_len boot_len (pa_cons (pv 1) pa_nil)) (nomark _)) (pss_one (ps_ret pe_bl)) pss_nil) (pss_one (ps_ret (pe_callB (kAll K) (by rfl) T.n_all boot_all (pa_cons (pe_comp (N' := ["text", "marks", "letters"]) (ix := [none, none, some 0]) (compScope_of (by kernel_rfl)) rfl (kiZip K T.n_zip (pa_cons (pv 1) (pa_cons (pv 2) pa_nil))) (fun _ _ _ _ => (kgTup K (n := 2) (pgs_cons (pg_name (i := 0) (show List.Nodup (["text", "marks", "letters"] : List Str) from by decide +kernel) rfl (by first | exact Or.inl rfl | exact Or.inr rfl)) (pgs_cons (pg_name (i := 1) (show List.Nodup (["text", "marks", "letters"] : List Str) from by decide +kernel) rfl (by first | exact Or.inl rfl | exact Or.inr rfl)) pgs_nil)))) (fun _ _ _ _ => pf_nil) (fun _ _ _ _ => (pe_callD T.row_fits G_row_fits (hr.mono (by first | decide | omega)) pass0 (pa_cons (pv 2) (pa_cons (pv 0) (pa_cons (pv 1) pa_nil)))))) pa_nil))))), ?_⟩
  refine rq_if (b := !decide ((rs.map (·.2)).length = p.length)) (gt_eq (gt_test (gv_neI (gv_lenL (K := K) (ga_1 (gv_var (by rfl))) hq) (fun _ s1 => gv_lenL (K := K) (ga_1 (gv_var (by rfl))) (s1.seq hb)) (by rfl))) ?_) (fun c H1 s1 => ?_) fun c H1 s1 => ?_
  · rw [List.length_map, List.length_map, List.length_map]
    congr 1
    simp
    omega
  · have e : fitB x p (rs.map (·.2)) = false := by
      unfold fitB
      rw [Bool.not_eq_true'] at c
      rw [c, Bool.false_and]
    have := k H1 s1
    rw [e] at this
    exact this
  have c' : (rs.map (·.2)).length = p.length := by simpa using c
  have c2 : rs.length = p.length := by rw [List.length_map] at c'; exact c'
  have hpf := hp.few
  refine rs_ret' (tcb1 (tcompZ (K := K) (ga_cons (gv_var (by rfl)) fun _ _ => ga_1 (gv_var (by rfl))) (s1.seq hb) (s1.seq hq) fun H2 s2 hb2 hq2 => ?_))
  refine comp_zip_idx (fun i => .bl (rowFitB x (p.getD i ⟨#[]⟩) ((rs.map (·.2)).getD i []))) hb2 hq2 (by rw [List.length_map, List.length_map, c2]) (small (by rw [List.length_map]; omega)) (fun i v l H3 R hv hl s3 k3 => ?_) fun D H3 hD s3 hDl => ?_
  · obtain ⟨y, rfl, hy, hyi⟩ := strs_at hv
    obtain ⟨pr, hpr, hlx⟩ : ∃ pr, rs[i]? = some pr ∧ l = .ref pr.1 := by
      rw [List.getElem?_map] at hl
      cases e : rs[i]? with
      | none => rw [e] at hl; cases hl
      | some pr => rw [e] at hl; exact ⟨pr, rfl, (Option.some.inj hl).symm⟩
    subst hlx
    have e1 : p.getD i ⟨#[]⟩ = y := by rw [List.getD_eq_getElem?_getD, hyi]; rfl
    have e2 : (rs.map (·.2)).getD i [] = pr.2 := by rw [List.getD_eq_getElem?_getD, List.getElem?_map, hpr]; rfl
    rw [e1, e2] at k3
    have s03 := s1.trans (s2.trans s3)
    exact gv_to (gv_call (ga_cons (gv_var (by rfl)) fun _ _ => ga_cons (gv_var (by rfl)) fun _ _ => ga_1 (gv_var (by rfl))) fun H4 R4 s4 k4 => ⟨x, y, pr.1, pr.2, rfl, SqL.of ((s03.trans s4) _ _ (hrs pr (List.mem_of_getElem? hpr))), hx, hp.short y hy, hp.plain y hy, k4⟩) fun H4 s4 => k3 H4 s4
  · refine ⟨D, (List.range (p.map V.str).length).map fun i => rowFitB x (p.getD i ⟨#[]⟩) ((rs.map (·.2)).getD i []), rfl, SqL.of (by rw [hDl, List.map_map]; rfl), ?_⟩
    have e : (((List.range (p.map V.str).length).map fun i => rowFitB x (p.getD i ⟨#[]⟩) ((rs.map (·.2)).getD i [])).all fun b => b) = fitB x p (rs.map (·.2)) := by
      unfold fitB
      rw [decide_eq_true c', Bool.true_and, List.all_map, List.length_map]
      rfl
    rw [e]
    exact k _ (s1.trans (s2.trans s3))
end
end K02

namespace TB
open PySem PySem.Spec
namespace SF
theorem entry_dup : entryFor table "dict.update.loop" = some Builtin.«dict.update.loop» := entryFor_of_tree (by kernel_rfl)
theorem plain_dup : plainId "dict.update.loop" = true := by decide +kernel
theorem miss_keys : typeLookup (.type "list") "keys" = pure none := am_miss_of_fast (by decide +kernel)
end SF
section
variable {prog : Program} {w : World} {K : Type} [DecidableEq K] {knd : KeyKind prog w K} {A : Around} {E : Value → Shared → Prop} {s : Shared}
theorem noKeys {a : Addr} {o : Obj} {xs : Array Value} {k : Nat} {Q : Option Value → Shared → Prop} (hx : s.heap.get? a = some o) (hc : o.cls = .type "list") (hdat : o.data = .seq xs k) (hd : o.dict = none) (hA : A.handled = none)
    (h : ∀ h' tk, (∀ b ob, s.heap.get? b = some ob → h'.get? b = some ob) → Q none { s with heap := h', toks := tk }) :
    wpAny (model prog w) A (getAttr? (.ref a) "keys") Q E s := by
  obtain ⟨c, dct, dat, sl⟩ := o
  simp only at hc hdat hd
  subst hc hdat hd
  obtain ⟨hp, g, d, tk, os⟩ := s
  have hT : ∀ tk', (⟨hp, g, d, tk', os⟩ : Shared).TypeIs (.ref a) "list" := fun _ => ⟨_, hx, rfl⟩
  have f1 := sub_AttributeError
  have f3 := F.slot_list_getattribute.lookup
  have f4 := F.slot_list_getattribute.bind (.ref a)
  have f5 := am_list_getattr_none
  unfold getAttr? getAttrBy? getAttrBy
  repeat (any_goals (first | assumption | exact hT _ | ((with_reducible show wpAny _ _ (call (Value.builtin "list.__getattribute__") _ _) _ _ _); refine call_meets F.slot_list_getattribute (hT _) am_entry_list_getattribute (F.args_list_getattribute_2 _ _) (meets_getattribute_miss_list a xs k sl "keys" _ SF.miss_keys (by decide +kernel) (by decide +kernel)) ⟨hx, hA, fun h' tk' e hx' => ?_⟩) | wp_step))
  obtain ⟨t', u', he⟩ := hx'.there
  show wpAny _ _ (getattributeRaised _ _ _ _ _ _ _) _ _ _
  unfold getattributeRaised
  repeat (any_goals (first | assumption | wp_step))
  all_goals first | exact h _ _ hx'.keeps | skip
/-- a pair (tuple, True) -/
def PairAt (h : Heap) (c a : Addr) : Prop := ∃ o n, h.get? c = some o ∧ o.cls = .type "tuple" ∧ o.data = .seq #[.ref a, .bool true] n
theorem PairAt.at_ {h h' : Heap} {c a : Addr} (x : PairAt h c a) (k : ∀ o, h.get? c = some o → h'.get? c = some o) : PairAt h' c a := by
  obtain ⟨o, n, ho, r⟩ := x
  exact ⟨o, n, k o ho, r⟩
theorem dictAt {h h' : Heap} {S : Addr} {ds : List (List K × Addr × Value)} (x : h.DictOfH (tupleKind knd) S ds) (k : ∀ o, h.get? S = some o → h'.get? S = some o) (kk : ∀ x ∈ ds, ∀ o, h.get? x.2.1 = some o → h'.get? x.2.1 = some o) : h'.DictOfH (tupleKind knd) S ds := by
  obtain ⟨o, es, ep, ho, a1, a2, a3, a4, a5⟩ := x
  exact ⟨o, es, ep, k o ho, a1, a2, a3, fun x hx => key_at (a4 x hx) (kk x hx), a5⟩
theorem atKey_stored (xs : List (List K × Addr × Value)) (k : List K) (a : Addr) (v : Value) (k' : List K) : (atKey (storedH xs k a v) k').isSome = ((atKey xs k').isSome || decide (k = k')) := by
  have some_iff : ∀ (ys : List (List K × Addr × Value)) (q : List K), (atKey ys q).isSome = ys.any fun x => decide (x.1 = q) := fun ys q => by
    unfold atKey
    rw [Option.isSome_map, Bool.eq_iff_iff, List.find?_isSome]
    simp
  rw [some_iff, some_iff]
  unfold storedH
  split
  · rename_i hs
    rw [some_iff] at hs
    rw [List.any_map]
    have e : ((fun x : List K × Addr × Value => decide (x.1 = k')) ∘ putAt k v) = fun x => decide (x.1 = k') := by
      funext x
      show decide ((putAt k v x).1 = k') = _
      unfold putAt
      split <;> rfl
    rw [e]
    by_cases q : k = k'
    · subst q; rw [hs]; simp
    · simp [q]
  · rw [List.any_append]; simp
theorem len_stored (xs : List (List K × Addr × Value)) (k : List K) (a : Addr) (v : Value) : (storedH xs k a v).length ≤ xs.length + 1 := by
  unfold storedH
  split <;> simp
variable {I : Addr} {fp wr : List Addr} {n : Nat} {P : Nat → Value → Prop} {St : Nat → Heap → Prop} {R : Result → Shared → Prop}
theorem dloop (W : Walks prog w A.in1 I fp wr n P St) (S : Addr) (hSf : S ∉ fp) {xs : List (Addr × Addr × List K)} (hn : xs.length = n) (hval : ∀ (i : Nat) (v : Value), P i v → ∃ p, xs[i]? = some p ∧ v = .ref p.1) (hw : ∀ p ∈ xs, p.1 ∉ wr ∧ p.2.1 ∉ wr)
    (hu : A.in1.units < cLine) (hz : xs.length ≤ 2000) :
    ∀ (k i : Nat) (s : Shared) (ds : List (List K × Addr × Value)), n - i = k → i ≤ n → St i s.heap → s.heap.DictOfH (tupleKind knd) S ds → (∀ p ∈ xs, PairAt s.heap p.1 p.2.1 ∧ IsTupleKey knd s.heap p.2.2 p.2.1) → ds.length ≤ i →
      (∀ q, (atKey ds q).isSome = true ↔ ∃ p ∈ xs.take i, p.2.2 = q) → (∀ x ∈ ds, ∃ p ∈ xs, x.1 = p.2.2 ∧ x.2.1 = p.2.1) →
      (∀ h' tk ds', (∀ b o, b ≠ S → b ∉ wr → s.heap.get? b = some o → h'.get? b = some o) → h'.DictOfH (tupleKind knd) S ds' → (∀ q, (atKey ds' q).isSome = true ↔ ∃ p ∈ xs, p.2.2 = q) → (∀ x ∈ ds', ∃ p ∈ xs, x.1 = p.2.2 ∧ x.2.1 = p.2.1) → R (.ok (.ret .none)) { s with heap := h', toks := tk }) →
      codeAny (model prog w) A (.builtin "dict.update.loop" ⟨[.ref S, .ref I, rawInt i, .none], []⟩) R s := by
  have hSw : S ∉ wr := fun h => hSf (W.sub _ h)
  intro k
  induction k with
  | zero =>
    intro i s ds hk hi hst hS tups hl all mem hR
    obtain rfl : i = n := by omega
    refine codeAny_builtin SF.entry_dup ?_
    rw [Around.under_plainId SF.plain_dup _]
    show wpAny _ A.in1 (pyNext (.ref I) >>= _) _ _ s
    refine wpAny_bind (W.done s _ _ hst fun h' tk hm => ?_)
    show wpAny _ A.in1 (Builtin.Dict.addKeywords S [] >>= fun _ => ret Value.none) _ _ _
    refine wpAny_bind (wpAny_pure (wpAny_pure (hR h' tk ds (fun b o _ hb e => hm b o hb e) (dictAt hS (fun o e => hm S o hSw e) fun x hx o e => ?_) ?_ mem)))
    · obtain ⟨p, hp, _, e2⟩ := mem x hx
      exact hm _ o (by rw [e2]; exact (hw p hp).2) e
    · rw [← hn, List.take_length] at all
      exact all
  | succ k ih =>
    intro i s ds hk hi hst hS tups hl all mem hR
    have hlt : i < n := by omega
    refine codeAny_builtin SF.entry_dup ?_
    rw [Around.under_plainId SF.plain_dup _]
    show wpAny _ A.in1 (pyNext (.ref I) >>= _) _ _ s
    refine wpAny_bind (W.item i s _ _ hlt hst fun v h' tk hP hst' hm => ?_)
    obtain ⟨p, hp, rfl⟩ := hval i v hP
    have hpx : p ∈ xs := List.mem_of_getElem? hp
    have hS' : h'.DictOfH (tupleKind knd) S ds := dictAt hS (fun o e => hm S o hSw e) fun x hx o e => by
      obtain ⟨p, hp, _, e2⟩ := mem x hx
      exact hm _ o (by rw [e2]; exact (hw p hp).2) e
    have tups' : ∀ q ∈ xs, PairAt h' q.1 q.2.1 ∧ IsTupleKey knd h' q.2.2 q.2.1 := fun q hq => ⟨(tups q hq).1.at_ fun o e => hm _ o (hw q hq).1 e, key_at (tups q hq).2 fun o e => hm _ o (hw q hq).2 e⟩
    obtain ⟨oc, nc, hoc, hcc, hdc⟩ := (tups' p hpx).1
    dsimp only
    refine wpAny_bind (wpAny_holding ?_)
    refine wpAny_bind (wpAny_tryCatch ?_)
    unfold Builtin.Dict.pairItems
    refine wpAny_bind (wpAny_typeOf (T := "tuple") ⟨oc, hoc, hcc⟩ ?_)
    rw [if_pos (by decide)]
    refine wpAny_bind (wpAny_seqItems hoc hdc (wpAny_pure ?_))
    show wpAny _ A.in1 (holding [Value.ref p.2.1, .bool true] (dictSet S (.ref p.2.1) (.bool true))) _ _ _
    refine wpAny_holding ?_
    refine wpAny_dictSet_heap (s := { s with heap := h', toks := tk }) (knd := tupleKind knd) (k := p.2.2) hu (tups' p hpx).2 hS' (fun h2 hS2 sb => ?_) (by rw [sizeLine_eq]; omega)
    have keep : ∀ b o, b ≠ S → h'.get? b = some o → h2.get? b = some o := fun b o hb e => (sb.2 b hb).trans e
    have ne : ∀ {c : Addr} {o : Obj}, h'.get? c = some o → o.cls = .type "tuple" → c ≠ S := fun {c o} e hc z => by
      obtain ⟨od, _, _, hod, ex, _⟩ := hS'
      rw [z, hod] at e
      cases e
      rw [ex.1] at hc
      exact absurd hc (by decide)
    have hle := len_stored ds p.2.2 p.2.1 (.bool true)
    refine wpAny_pure ⟨plainId_quiet SF.plain_dup _, ih (i + 1) _ _ (by omega) hlt (W.frame _ _ _ hst' fun b hb o e => keep b o (fun (h : b = S) => hSf (h ▸ hb)) e) hS2 (fun q hq => ?_) (by omega) (fun q => ?_) (fun x hx => ?_) fun h3 tk3 ds3 kp hS3 a3 m3 => ?_⟩
    · obtain ⟨o1, n1, e1, c1, d1⟩ := (tups' q hq).1
      refine ⟨⟨o1, n1, keep _ _ (ne e1 c1) e1, c1, d1⟩, ?_⟩
      obtain ⟨o2, i2, n2, e2, c2, r2⟩ := (tups' q hq).2
      exact ⟨o2, i2, n2, keep _ _ (ne e2 c2) e2, c2, r2⟩
    · rw [atKey_stored, Bool.or_eq_true, decide_eq_true_iff, all q]
      have htk : xs.take (i + 1) = xs.take i ++ [p] := by rw [List.take_succ, hp]; rfl
      rw [htk]
      constructor
      · rintro (⟨r, hr, e⟩ | e)
        · exact ⟨r, List.mem_append_left _ hr, e⟩
        · exact ⟨p, by simp, e⟩
      · rintro ⟨r, hr, e⟩
        rcases List.mem_append.mp hr with z | z
        · exact .inl ⟨r, z, e⟩
        · rw [List.mem_singleton.mp z] at e; exact .inr e
    · unfold storedH at hx
      split at hx
      · obtain ⟨y, hy, rfl⟩ := List.mem_map.mp hx
        obtain ⟨r, hr, e1, e2⟩ := mem y hy
        refine ⟨r, hr, ?_⟩
        unfold putAt
        split
        · exact ⟨e1, e2⟩
        · exact ⟨e1, e2⟩
      · rcases List.mem_append.mp hx with z | z
        · exact mem x z
        · rw [List.mem_singleton.mp z]; exact ⟨p, hpx, rfl, rfl⟩
    · exact hR h3 tk3 ds3 (fun b o h1 h2' e => kp b o h1 h2' (keep b o h1 (hm b o h2' e))) hS3 a3 m3
theorem call_dictP {l : Addr} {ol : Obj} {nl : Nat} {xs : List (Addr × Addr × List K)} {Q : Value → Shared → Prop} (hh : A.handled = none) (hol : s.heap.get? l = some ol) (hcl : ol.cls = .type "list") (hdl : ol.data = .seq (xs.map fun p => Value.ref p.1).toArray nl) (hdd : ol.dict = none)
    (tups : ∀ p ∈ xs, PairAt s.heap p.1 p.2.1 ∧ IsTupleKey knd s.heap p.2.2 p.2.1) (hu : A.units + 8 < cLine) (hz : xs.length ≤ 2000)
    (h : ∀ (h' : Heap) (tk : Nat) (ds : List (List K × Addr × Value)), h'.DictOfH (tupleKind knd) s.heap.objs.size ds → (∀ q, (atKey ds q).isSome = true ↔ ∃ p ∈ xs, p.2.2 = q) → (∀ x ∈ ds, ∃ p ∈ xs, x.1 = p.2.2 ∧ x.2.1 = p.2.1) → (∀ b o, s.heap.get? b = some o → h'.get? b = some o) → Q (.ref s.heap.objs.size) { s with heap := h', toks := tk }) :
    wpAny (model prog w) A (call (.type "dict") [.ref l]) Q E s := by
  refine callType_codes (Q₁ := fun obj s₁ => obj = .ref s.heap.objs.size ∧ s₁ = { s with heap := s.heap.push { cls := .type "dict", data := .dict #[] } }) F.kt_called_dict (F.kt_typeCall_dict_1 _) F.entry_dict_init (kt_code_dict_new _ ⟨rfl, rfl⟩) ?_
  rintro obj s₁ ⟨rfl, rfl⟩
  have hnew : (s.heap.push { cls := .type "dict", data := .dict #[] }).DictOfH (tupleKind knd) s.heap.objs.size [] := Heap.DictOfH.new s.heap
  have hol1 : (s.heap.push { cls := .type "dict", data := .dict #[] }).get? l = some ol := Heap.get?_push_of_some _ hol
  have hlS : l < s.heap.objs.size := Heap.lt_size hol
  refine ⟨hnew.typeIs, F.args_dict_init_2 _ _, ?_⟩
  unfold Builtin.«dict.__init__»
  refine wpAny_bind ?_
  unfold Builtin.Dict.selfAndRest
  refine wpAny_bind (wpAny_notOrdered_dict hnew.typeIs ?_)
  show wpAny _ _ (pure (s.heap.objs.size, [Value.ref l])) _ _ _
  refine wpAny_pure ?_
  show wpAny _ _ (Builtin.Dict.updateFrom "dict.__init__" s.heap.objs.size (.ref l) [] .none) _ _ _
  unfold Builtin.Dict.updateFrom
  refine wpAny_bind (wpAny_typeOf (T := "list") ⟨ol, hol1, hcl⟩ ?_)
  rw [if_pos (by decide)]
  refine wpAny_bind (noKeys hol1 hcl hdl hdd (by simp [hh]) fun h1 tk1 k1 => ?_)
  simp only [Option.isNone_none, if_true]
  have hS1 : h1.DictOfH (tupleKind knd) s.heap.objs.size [] := dictAt hnew (fun o e => k1 _ o e) fun x hx => absurd hx (by simp)
  have hl1 : h1.get? l = some ol := k1 _ _ hol1
  have hL1 : h1.IsList l (xs.map fun p => Value.ref p.1).toArray := ⟨ol, hl1, hcl, nl, hdl⟩
  have kp1 : ∀ b o, s.heap.get? b = some o → h1.get? b = some o := fun b o e => k1 b o (Heap.get?_push_of_some _ e)
  have hSlt : s.heap.objs.size < h1.objs.size := by
    obtain ⟨o, _, _, ho, _⟩ := hS1
    exact Heap.lt_size ho
  have hllt : l < h1.objs.size := Heap.lt_size hl1
  refine wpAny_bind (wpAny_rule (wpAny_bind (wpAny_pyIter_list (s := { s with heap := h1, toks := tk1 }) hL1 ?_)))
  have kp2 : ∀ b o, h1.get? b = some o → (h1.push { cls := .type "list_iterator", data := .fields #[.ref l, .int 0 0] }).get? b = some o := fun b o e => Heap.get?_push_of_some _ e
  have hI2 : (h1.push { cls := .type "list_iterator", data := .fields #[.ref l, .int 0 0] }).get? h1.objs.size = some { cls := .type "list_iterator", data := .fields #[.ref l, .int 0 0] } := Heap.get?_push_size _ rfl
  generalize h1.push { cls := .type "list_iterator", data := .fields #[.ref l, .int 0 0] } = h2 at *
  have W := Walks.list (prog := prog) (w := w) (A := A.in1.in1) (by simp [hh]) h1.objs.size l (Nat.ne_of_lt hllt) (xs.map fun p => Value.ref p.1).toArray
  refine wpAny_pure ⟨plainId_quiet SF.plain_dup _, dloop (knd := knd) W s.heap.objs.size ?_ (xs := xs) (by simp) (fun i v hv => ?_) (fun p hp => ?_) (by simp only [Around.in1]; omega) hz _ 0 _ [] rfl (Nat.zero_le _)
    ⟨⟨_, hI2, rfl, rfl⟩, ⟨ol, kp2 _ _ hl1, hcl, nl, hdl⟩⟩ (dictAt hS1 (fun o e => kp2 _ o e) fun x hx => absurd hx (by simp)) (fun p hp => ⟨(tups p hp).1.at_ fun o e => kp2 _ o (kp1 _ o e), key_at (tups p hp).2 fun o e => kp2 _ o (kp1 _ o e)⟩) (Nat.le_refl _) (fun q => ?_) (fun x hx => absurd hx (by simp)) fun h' tk ds kp hS' m1 m2 => ?_⟩
  · simp only [List.mem_cons, List.not_mem_nil, or_false, not_or]
    exact ⟨Nat.ne_of_lt hSlt, Nat.ne_of_gt hlS⟩
  · simp at hv
    obtain ⟨a, ⟨b, c, hp⟩, rfl⟩ := hv
    exact ⟨(a, b, c), hp, rfl⟩
  · obtain ⟨⟨o1, _, e1, _⟩, ⟨o2, _, _, e2, _⟩⟩ := tups p hp
    simp only [List.mem_cons, List.not_mem_nil, or_false]
    exact ⟨Nat.ne_of_lt (Heap.lt_size (kp1 _ _ e1)), Nat.ne_of_lt (Heap.lt_size (kp1 _ _ e2))⟩
  · simp [atKey]
  · refine ⟨rfl, h h' tk ds hS' m1 m2 fun b o e => kp b o (Nat.ne_of_lt (Heap.lt_size e)) ?_ (kp2 _ _ (kp1 _ _ e))⟩
    simp only [List.mem_cons, List.not_mem_nil, or_false]
    exact Nat.ne_of_lt (Heap.lt_size (kp1 _ _ e))
end
end TB

namespace L2
open PySem PySem.Spec PyProof.Rows
def rawD (prog : Program) (w : World) (h : Heap) (S : Addr) (ds : List (List Int × Addr × Value)) : Prop := (S == sysModules) = false ∧ ∃ o es ep, h.get? S = some o ∧ o.ExactDict ∧ o.data = .dict es ep ∧ es.toList = ds.map (entryOfKey (tupleKind (intKind prog w))) ∧ (ds.map (·.1)).Nodup
def dictO (prog : Program) (w : World) (S : Addr) (ds : List (List Int × Addr × Value)) : HO := .ext fun h => rawD prog w h S ds
abbrev prv (p : Addr × Addr × List Int) : V := .ref p.1
theorem vals_prv : ∀ {ps : List (Addr × Addr × List Int)} {us : List Value}, Vals (ps.map prv) us → us = ps.map fun p => Value.ref p.1
  | [], _, .nil => rfl
  | p :: ps, u :: us, .cons r t => by
    have e : u = .ref p.1 := r
    rw [e, vals_prv t]
    rfl
section
variable {X : Cx} {pins : List (Addr × Obj)} {σ : St} {H : Hp} {s : Shared}
theorem Inv.pair (I : Inv X pins σ H s) {c a : Addr} (h : SqT X.K H c [.ref a, .bl true]) : TB.PairAt s.heap c a := by
  obtain ⟨its, r, ⟨o, ho, hc, n, hd⟩, _⟩ := I.tuple h
  obtain ⟨u, v, rfl, ru, rv⟩ := vals2 r
  cases ru
  cases rv
  exact ⟨o, n, ho, hc, hd⟩
def rDict (K : PySem.W.Frag) (prog : Program) (w : World) : List V → Hp → VK → Prop := fun xs H Q => ∃ (l : Addr) (ps : List (Addr × Addr × List Int)), xs = [.ref l] ∧ SqL K H l (ps.map prv) ∧ (∀ p ∈ ps, SqT K H p.1 [.ref p.2.1, .bl true] ∧ SqT K H p.2.1 (p.2.2.map V.int)) ∧ ps.length ≤ 2000 ∧
  ∀ (S : Addr) (ds : List (List Int × Addr × Value)), H S = none → (∀ q, (atKey ds q).isSome = true ↔ ∃ p ∈ ps, p.2.2 = q) → (∀ x ∈ ds, ∃ p ∈ ps, x.1 = p.2.2 ∧ x.2.1 = p.2.1) → Q (.ref S) (upd H S (dictO prog w S ds))
theorem call_dictT (hc : X.calm = true) (hu : X.A.units + 64 < cLine) : CallR X (.type "dict") (rDict X.K X.prog X.w) := by
  intro pins s σ H xs us Q I r h
  obtain ⟨l, ps, rfl, hq, ht, hz, q⟩ := h
  obtain ⟨u, rfl, ru⟩ := vals1 r
  cases ru
  obtain ⟨its, r', ⟨o, n, ho, hcl, hdd, hd⟩, _⟩ := I.list hq
  rw [vals_prv r'] at hd
  have big : sysModules < s.heap.objs.size := by
    have h : mainGlobals < s.heap.objs.size := (I.mod.glob.keeps I.bk).lt
    exact Nat.lt_trans (by decide) h
  refine TB.call_dictP (knd := intKind X.prog X.w) (xs := ps) (I.ok.hd hc) ho hcl hd hdd (fun p hp => ⟨I.pair (ht p hp).1, I.key (ht p hp).2⟩) (by omega) hz fun h' tk ds hS m1 m2 kp => ?_
  obtain ⟨od, es, ep, hod, e1, e2, e3, _, e5⟩ := hS
  refine ⟨.ref s.heap.objs.size, _, I.laid (t' := tk) kp (Nat.le_refl _) (show ObjOk X.prog X.w _ h' _ (dictO X.prog X.w s.heap.objs.size ds) from ⟨⟨beq_eq_false_iff_ne.mpr (Nat.ne_of_gt big), od, es, ep, hod, e1, e2, e3, e5⟩, ⟨od, hod⟩, fun h1 h2 x k => ?_⟩), rfl, q _ ds (I.hok.fresh (Nat.le_refl _)) m1 m2⟩
  obtain ⟨x0, o, es, ep, ho, r⟩ := x
  exact ⟨x0, o, es, ep, k o ho, r⟩
def rInD (K : PySem.W.Frag) (prog : Program) (w : World) : R2 := fun x y H Q => ∃ (b d : Addr) (k : List Int) (ds : List (List Int × Addr × Value)), x = .ref b ∧ y = .ref d ∧ SqT K H b (k.map V.int) ∧ H d = some (dictO prog w d ds) ∧ (∀ x ∈ ds, SqT K H x.2.1 (x.1.map V.int)) ∧ Q (.bl (atKey ds k).isSome) H
theorem op_inD (hu : X.A.units + 64 < cLine) : OpR X (compareOp .In) (rInD X.K X.prog X.w) := by
  intro pins s σ H x y u v Q I rx ry h
  obtain ⟨b, d, k, ds, rfl, rfl, hb, hd, ht, q⟩ := h
  cases rx; cases ry
  obtain ⟨⟨x0, o, es, ep, ho, e1, e2, e3, e4⟩, _⟩ := (show ObjOk X.prog X.w H s.heap d (dictO X.prog X.w d ds) from I.hok d _ hd)
  exact wpAny_in_heap (knd := tupleKind (intKind X.prog X.w)) (tupleKind_room_in1 (by omega)) (I.key hb) x0 ⟨o, es, ep, ho, e1, e2, e3, fun x hx => I.key (ht x hx), e4⟩ ⟨.bl (atKey ds k).isSome, H, I.tok _, rfl, q⟩
end
section
variable {X : Cx} (K : PySem.W.Frag)
theorem kDictT (P : Program) (w : World) (hu : X.A.units + 64 < cLine) (h : X.K = K := by rfl) (hP : X.prog = P := by rfl) (hw : X.w = w := by rfl) (hc : X.calm = true := by rfl) : CallR X (.type "dict") (rDict K P w) := by
  subst h; subst hP; subst hw
  exact call_dictT hc hu
theorem kInD (P : Program) (w : World) (hu : X.A.units + 64 < cLine) (h : X.K = K := by rfl) (hP : X.prog = P := by rfl) (hw : X.w = w := by rfl) : OpR X (compareOp .In) (rInD K P w) := by
  subst h; subst hP; subst hw
  exact op_inD hu
end
end L2

set_option maxHeartbeats 1000000
namespace K02
open PySem PySem.Spec PyProof.Rows L2
section
variable {P : Program} {w : World} {K : PySem.W.Frag} {mg : Str → Option Value} {base : Heap} {t : Ad}
theorem pic_facts {p : List Str} (h : picOk p = true) : p ≠ [] ∧ p.length ≤ 4 ∧ wide0 p ≤ 12 ∧ 1 ≤ wide0 p ∧ (∀ r ∈ p, r.length = wide0 p) ∧ ∀ r ∈ p, lettersOk r = true := by
  unfold picOk at h
  simp only [Bool.and_eq_true, decide_eq_true_eq, List.all_eq_true] at h
  obtain ⟨⟨h1, h2⟩, ⟨h3, h4⟩, h5⟩ := h
  refine ⟨fun e => ?_, by omega, by omega, by omega, fun r hr => ?_, fun r hr => ?_⟩
  · rw [e] at h1; simp at h1
  · have := h5 r hr
    unfold rowOk at this
    simp only [Bool.and_eq_true, decide_eq_true_eq] at this
    have h1 := this.1
    injection h1 with h2
    exact Int.ofNat.inj h2
  · have := h5 r hr
    unfold rowOk at this
    simp only [Bool.and_eq_true] at this
    exact this.2
theorem plain_of {r : Str} (h : lettersOk r = true) : r.cps.all (· < 128) = true := by
  unfold lettersOk at h
  rw [List.all_eq_true] at h
  rw [← Array.all_toList, List.all_eq_true]
  intro c hc
  have h1 := h c hc
  unfold isL at h1
  have h2 : c ∈ abcd.cps.toList := of_decide_eq_true h1
  have h3 : ∀ c ∈ abcd.cps.toList, c < 128 := by decide +kernel
  exact decide_eq_true (h3 c h2)
theorem pic_pic {p : List Str} (h : picOk p = true) : Pic p := by
  obtain ⟨_, h1, h2, _, h3, h4⟩ := pic_facts h
  exact ⟨by omega, fun r hr => by rw [h3 r hr]; omega, fun r hr => plain_of (h4 r hr)⟩
theorem fit_rows {x : Str} {p : List Str} {rows : List (List Int)} (hf : fitB x p rows = true) (h : picOk p = true) : rows ≠ [] ∧ (∀ r ∈ rows, r.length = wid rows) ∧ rows.length ≤ 20 ∧ wid rows ≤ 20 := by
  obtain ⟨h0, h1, h2, _, h3, _⟩ := pic_facts h
  unfold fitB at hf
  simp only [Bool.and_eq_true, decide_eq_true_eq, List.all_eq_true, List.mem_range] at hf
  obtain ⟨hl, hr⟩ := hf
  have hne : rows ≠ [] := fun e => by
    rw [e] at hl
    exact h0 (List.length_eq_zero_iff.mp hl.symm)
  have row : ∀ r ∈ rows, r.length = wide0 p := fun r hm => by
    obtain ⟨i, hi, rfl⟩ := List.mem_iff_getElem.mp hm
    have hip : i < p.length := by omega
    have := hr i hip
    unfold rowFitB at this
    simp only [Bool.and_eq_true, decide_eq_true_eq] at this
    have e1 : rows.getD i [] = rows[i] := by simp [hi]
    have e2 : p.getD i ⟨#[]⟩ = p[i] := by simp [hip]
    rw [e1, e2] at this
    rw [this.1]
    exact h3 _ (List.getElem_mem hip)
  have hw : wid rows = wide0 p := by
    cases rows with
    | nil => exact absurd rfl hne
    | cons r0 rr => exact row r0 List.mem_cons_self
  exact ⟨hne, fun r hm => by rw [row r hm, hw], by omega, by omega⟩
def pairD (t : List Int) : Dt := .tup [tupI t, .bl true]
theorem reps_pairs {K : PySem.W.Frag} {H : Hp} : ∀ {ts : List (List Int)} {vs : List V}, Reps K H (ts.map pairD) vs → ∃ ps : List (Addr × Addr × List Int), vs = ps.map prv ∧ ps.map (·.2.2) = ts ∧ ∀ p ∈ ps, SqT K H p.1 [.ref p.2.1, .bl true] ∧ SqT K H p.2.1 (p.2.2.map V.int)
  | [], _, r => by
    rw [List.map_nil] at r
    unfold Reps at r
    exact ⟨[], r, rfl, fun p hp => absurd hp (by simp)⟩
  | t :: ts, _, r => by
    rw [List.map_cons] at r
    unfold Reps at r
    obtain ⟨x, xs, rfl, q, t'⟩ := r
    unfold pairD Rep at q
    obtain ⟨c, ys, rfl, qc, q2⟩ := q
    unfold Reps at q2
    obtain ⟨y, y2, rfl, q3, q4⟩ := q2
    unfold Reps at q4
    obtain ⟨z, z2, rfl, q5, q6⟩ := q4
    unfold Reps at q6
    unfold Rep at q5
    subst q5 q6
    obtain ⟨b, rfl, qb⟩ := rep_tupI.mp q3
    obtain ⟨ps, rfl, e2, e3⟩ := reps_pairs t'
    refine ⟨(c, b, t) :: ps, rfl, by rw [List.map_cons, e2], fun p hp => ?_⟩
    rcases List.mem_cons.mp hp with rfl | hp
    · exact ⟨qc, qb⟩
    · exact e3 p hp
theorem gv_inD {ta tb : TE} {σ : L2.St} {H : Hp} {b d : Addr} {k : List Int} {ds : List (List Int × Addr × Value)} (ha : Gv ta σ H (.ref b)) (hd : ∀ H', Same H H' → Gv tb σ H' (.ref d)) (hb : SqT K H b (k.map V.int)) (hD : H d = some (dictO P w d ds)) (ht : ∀ x ∈ ds, SqT K H x.2.1 (x.1.map V.int)) :
    Gv (tOp (rInD K P w) ta tb) σ H (.bl (atKey ds k).isSome) := fun R r => ha _ fun H1 s1 => hd H1 s1 _ fun H2 s2 => ⟨b, d, k, ds, rfl, rfl, (s1.trans s2).tup hb, (s1.trans s2) _ _ hD, fun x hx => (s1.trans s2).tup (ht x hx), r H2 (s1.trans s2)⟩
def showB (x : Str) (ts : List (List Int)) (p : List Str) (rows : List (List Int)) : Bool := fitB x p rows && (grid rows).all fun t => decide (t ∈ ts)
def sp_shows (K : PySem.W.Frag) (CS CP : Addr) : Sp := fun vs H Q E => ∃ (a b r : Addr) (x : Str) (ts : List (List Int)) (p : List Str) (rows : List (List Int)), vs = [.ref a, .ref b, .ref r] ∧ SysAt K H a x ts ∧ Mild x ts ∧ SqL K H b (p.map V.str) ∧ Sm p ∧ RowsAt K H r rows ∧
  (sysB x ts = false → ∀ H', Same H H' → E (.ref CS) none H') ∧ (sysB x ts = true → picOk p = false → ∀ H', Same H H' → E (.ref CP) none H') ∧ (sysB x ts = true → picOk p = true → ∀ H', Same H H' → Q (.bl (showB x ts p rows)) H')
theorem sc_shows : FnScope ["system", "picture", "rows", "known"] ["system", "picture", "rows"] (defScope s_shows) := ⟨rfl, rfl, rfl, by decide +kernel, rfl, by decide +kernel, by decide +kernel⟩
theorem ok_shows (T : Txt K mg t) : FnOk P w K mg base (CX1 P w) 4 t.f_shows t.d_shows ["system", "picture", "rows"] (sp_shows K t.c_BadSystem t.c_BadPicture) := by
  have G_look_system : FnOk P w K mg base (CX1 P w) 3 t.f_look_system t.d_look_system ["system"] (sp_lookS K t.c_BadSystem) := ok_look_system T
  have G_look_picture : FnOk P w K mg base (CX1 P w) 3 t.f_look_picture t.d_look_picture ["picture"] (sp_look K t.c_BadPicture) := ok_look_picture T
  have G_rows_fit : FnOk P w K mg base CX0 3 t.f_rows_fit t.d_rows_fit ["letters", "picture", "rows"] (sp_rows_fit K) := ok_rows_fit T
  have G_tiles_of : FnOk P w K mg base CX0 2 t.f_tiles_of t.d_tiles_of ["rows"] (sp_bordered K fun rows => (grid rows).map tupI) := ok_tiles_of T
  refine T.shows.fn.okX sc_shows (fun vs H Q E h => ?_) (fun cdv A outer s H vs Q E hr h => ?_)
  · obtain ⟨a, b, r, x, ts, p, rows, rfl, _⟩ := h
    rfl
  obtain ⟨a, b, r, x, ts, p, rows, rfl, hA, hM, hb, hSm, hR, k1, k2, k3⟩ := h
  refine ⟨_, (pss_cons (ps_expr (pe_callD T.look_system G_look_system (hr.mono (by first | decide | omega)) (passes1 raiseX rfl rfl rfl (fun _ _ _ z => z)) (pa_cons (pv 0) pa_nil))) (pss_cons (ps_expr (pe_callD T.look_picture G_look_picture (hr.mono (by first | decide | omega)) (passes1 raiseX rfl rfl rfl (fun _ _ _ z => z)) (pa_cons (pv 1) pa_nil))) (pss_cons (ps_if (pt_not (pt_val (pe_callD T.rows_fit G_rows_fit (hr.mono (by first | decide | omega)) pass0 (pa_cons (pe_ix (kIxT K) (pv 0) pe_int (fun _ _ => rfl)) (pa_cons (pv 1) (pa_cons (pv 2) pa_nil)))))) (pss_one (ps_ret pe_bl)) pss_nil) (pss_cons (ps_set (i := 3) sc_shows.nd rfl (by first | exact Or.inl rfl | exact Or.inr rfl) (pe_callTy (kDictT K P w hr.units) (by rfl) T.n_dict boot_dict (pa_cons (pe_comp (N' := ["tile"]) (ix := [none]) (compScope_of (by kernel_rfl)) rfl (kiList K (pe_ix (kIxT K) (pv 0) pe_int (fun _ _ => rfl))) (fun _ _ _ _ => (pg_name (i := 0) (show List.Nodup (["tile"] : List Str) from by decide +kernel) rfl (by first | exact Or.inl rfl | exact Or.inr rfl))) (fun _ _ _ _ => pf_nil) (fun _ _ _ _ => (pe_tup (pa_cons (pv 0) (pa_cons pe_bl pa_nil))))) pa_nil))) (pss_one (ps_ret (pe_callB (kAll K) (by rfl) T.n_all boot_all (pa_cons (pe_comp (N' := ["tile", "known"]) (ix := [none, some 3]) (compScope_of (by kernel_rfl)) rfl (kiList K (pe_callD T.tiles_of G_tiles_of (hr.mono (by first | decide | omega)) pass0 (pa_cons (pv 2) pa_nil))) (fun _ _ _ _ => (pg_name (i := 0) (show List.Nodup (["tile", "known"] : List Str) from by decide +kernel) rfl (by first | exact Or.inl rfl | exact Or.inr rfl))) (fun _ _ _ _ => pf_nil) (fun _ _ _ _ => (pe_cmpR (kInD K P w hr.units) (pv 0) (pv 1) rfl))) pa_nil)))))))), ?_⟩
  refine rq_drop' (tcall (ga_1 (gv_var (by rfl))) fun H1 s1 => ⟨a, x, ts, rfl, hA.same s1, hM, fun c1 H2 s2 => ?_, fun c1 H2 s2 => k1 c1 H2 (s1.trans s2)⟩)
  have s02 := s1.trans s2
  refine rq_drop' (tcall (ga_1 (gv_var (by rfl))) fun H3 s3 => ⟨b, p, rfl, (s02.trans s3).seq hb, hSm, fun c2 H4 s4 => ?_, fun c2 H4 s4 => k2 c1 c2 H4 ((s02.trans s3).trans s4)⟩)
  have s04 := (s02.trans s3).trans s4
  have k := k3 c1 c2
  have hsx := hM.short
  have hft := hM.few
  obtain ⟨L, hT, hrep⟩ := hA
  refine rq_if (b := !fitB x p rows) (gt_not (gt_tB (gv_call (ga_cons (gv_ixT (K := K) (gv_var (by rfl)) (fun _ _ => gv_c) (s04.tup hT) (atI_nat (j := 0) rfl)) fun _ _ => ga_cons (gv_var (by rfl)) fun _ _ => ga_1 (gv_var (by rfl))) fun H5 R s5 k5 => ⟨x, b, r, p, rows, rfl, (s04.trans s5).seq hb, hR.same (s04.trans s5), hsx, pic_pic c2, k5⟩))) (fun c H5 s5 => ?_) fun c H5 s5 => ?_
  · have e : showB x ts p rows = false := by
      unfold showB
      rw [Bool.not_eq_true'] at c
      rw [c, Bool.false_and]
    have := k H5 (s04.trans s5)
    rw [e] at this
    exact this
  have c' : fitB x p rows = true := by simpa using c
  obtain ⟨hne, hrect, hlen, hwid⟩ := fit_rows c' c2
  have s05 := s04.trans s5
  have hrep5 := hrep.same s05
  obtain ⟨xs, hq, hr0⟩ := rep_list hrep5
  have hxl : xs.length = ts.length := by rw [hr0.length, List.length_map]
  refine rq_set' (tcb1 (tcompL (K := K) (gv_ixT (K := K) (gv_var (by rfl)) (fun _ _ => gv_c) (s05.tup hT) (atI_nat (j := 1) rfl)) hq fun H6 s6 hq6 => ?_))
  refine comp_list_rep (fun i => pairD (ts.getD i [])) hq6 (small (by omega)) (fun D i v H7 R7 hD hDs hv s7 k7 => ?_) fun D H7 ys hD s7 hDl rep => ?_
  · have hi : i < ts.length := by have := (List.getElem?_eq_some_iff.mp hv).1; omega
    obtain ⟨v', hv', hr'⟩ := hr0.get i (tupI (ts.getD i [])) (by rw [List.getElem?_map, List.getD_eq_getElem?_getD, List.getElem?_eq_getElem hi]; rfl)
    rw [hv] at hv'
    cases hv'
    obtain ⟨c, rfl, hc⟩ := rep_tupI.mp hr'
    refine (ga_cons (gv_var (by rfl)) fun _ _ => ga_1 gv_c) _ fun H8 s8 => ⟨(by show 2 ≤ sizeLine; decide), fun q hq8 => k7 _ _ (s8.trans (Same.new hq8 _)) ?_⟩
    obtain ⟨ys, hys⟩ := hDs
    have neq : q ≠ D := fun z => by rw [z, s8 _ _ hys] at hq8; cases hq8
    unfold pairD Rep
    refine ⟨q, _, rfl, SqT.of (by rw [hm_ne neq, upd_same]), ?_⟩
    unfold Reps
    refine ⟨_, _, rfl, ?_, by unfold Reps; exact ⟨_, _, rfl, by unfold Rep; rfl, by unfold Reps; rfl⟩⟩
    refine (hr'.same ?_)
    intro z o hz
    have nD : z ≠ D := fun e => by rw [e, s6.free hD] at hz; cases hz
    rw [hm_ne nD]
    exact (s6.trans (s7.trans (s8.trans (Same.new hq8 _)))) z o hz
  · rw [hxl, show (List.range ts.length).map (fun i => pairD (ts.getD i [])) = ts.map pairD from (map_getD' pairD ts []).symm] at rep
    obtain ⟨ps, rfl, e2, e3⟩ := reps_pairs rep
    have e3' : ∀ p ∈ ps, SqT K H7 p.1 [.ref p.2.1, .bl true] ∧ SqT K H7 p.2.1 (p.2.2.map V.int) := fun p hp => ⟨hm_out.tup (e3 p hp).1, hm_out.tup (e3 p hp).2⟩
    refine ⟨D, ps, rfl, SqL.of hDl, e3', ?_, fun S ds hS m1 m2 => ?_⟩
    · have : ps.length = ts.length := by rw [← e2, List.length_map]
      omega
    have sS := Same.new hS (dictO P w S ds)
    have s7S := s05.trans (s6.trans (s7.trans sS))
    refine rs_ret' (tcb1 (tcall (ga_1 (gv_var (by rfl))) fun H8 s8 => ⟨r, rows, rfl, hR.same (s7S.trans s8), hne, hrect, hlen, hwid, fun F H9 ws hF s9 hF9 rF => ⟨F, rfl, ⟨_, SqL.of hF9⟩, ?_⟩⟩))
    have hwl : ws.length = (grid rows).length := by rw [Reps.length rF, List.length_map]
    have hgl : (grid rows).length ≤ 1000 := by
      have := flat_len rows (rows.length + 1)
      have e : (grid rows).length = (rows.length + 1) * (wid rows + 1) := this
      have : (rows.length + 1) * (wid rows + 1) ≤ 21 * 21 := Nat.mul_le_mul (by omega) (by omega)
      omega
    refine comp_list_idx (fun i => .bl (decide ((grid rows).getD i [] ∈ ts))) (SqL.of hF9) (small (by omega)) (fun i v HA RA hv sA kA => ?_) fun D2 HA hD2 sA hDA => ?_
    · have hi : i < (grid rows).length := by have := (List.getElem?_eq_some_iff.mp hv).1; omega
      obtain ⟨v', hv', hr'⟩ := Reps.get rF i (tupI ((grid rows).getD i [])) (by rw [List.getElem?_map, List.getD_eq_getElem?_getD, List.getElem?_eq_getElem hi]; rfl)
      rw [hv] at hv'
      cases hv'
      obtain ⟨c, rfl, hc⟩ := rep_tupI.mp hr'
      have sSA := (s8.trans s9).trans sA
      refine gv_to (gv_eq (gv_inD (gv_var (by rfl)) (fun _ _ => gv_var (by rfl)) ((hm_out.trans sA).tup hc) (sSA _ _ upd_same) (fun y hy => ?_)) (y := .bl (decide ((grid rows).getD i [] ∈ ts))) ?_) fun HB sB => kA HB sB
      · obtain ⟨p', hp', f1, f2⟩ := m2 y hy
        rw [f1, f2]
        exact (sS.trans sSA).tup (e3' p' hp').2
      · congr 1
        rw [Bool.eq_iff_iff, m1, decide_eq_true_iff, ← e2, List.mem_map]
    · refine ⟨D2, (List.range ws.length).map fun i => decide ((grid rows).getD i [] ∈ ts), rfl, SqL.of (by rw [hDA, List.map_map]; rfl), ?_⟩
      have e : (((List.range ws.length).map fun i => decide ((grid rows).getD i [] ∈ ts)).all fun b => b) = showB x ts p rows := by
        unfold showB
        rw [c', Bool.true_and, hwl]
        have := map_getD' (fun t : List Int => decide (t ∈ ts)) (grid rows) []
        rw [← this, List.all_map]
        rfl
      rw [e]
      exact k _ (s7S.trans ((s8.trans s9).trans sA))
end
end K02

set_option maxHeartbeats 1000000
namespace K02
open PySem PySem.Spec PyProof.Rows L2
section
variable {P : Program} {w : World} {K : PySem.W.Frag} {mg : Str → Option Value} {base : Heap} {t : Ad}
def sp_refusal (K : PySem.W.Frag) (t : Ad) : Sp := fun vs H Q _ => ∃ (a C : Addr) (wd : Str), vs = [.ref a] ∧ H a = some (excO a (.ref C)) ∧ ((C = t.c_BadPicture ∧ wd = "picture") ∨ (C = t.c_BadSystem ∧ wd = "system")) ∧ ∀ H', Same H H' → Q (.str wd) H'
/-- which of the five kinds, as bools -/
structure Five (K : PySem.W.Frag) (t : Ad) (C : Addr) (b1 b2 b3 b4 b5 : Bool) : Prop where
  is : ExcIs K C
  k1 : PySem.W.kitOne K (.ref C) (.ref t.c_BadPicture) = some b1
  k2 : PySem.W.kitOne K (.ref C) (.ref t.c_BadSize) = some b2
  k3 : PySem.W.kitOne K (.ref C) (.ref t.c_BadSystem) = some b3
  k4 : PySem.W.kitOne K (.ref C) (.ref t.c_BadText) = some b4
  k5 : PySem.W.kitOne K (.ref C) (.ref t.c_Unlike) = some b5
  k6 : PySem.W.kitOne K (.ref C) (.type "ValueError") = some true
theorem sc__law_refusal : FnScope ["_law_kept", "_law_kinds"] ["_law_kept"] (defScope s__law_refusal) := ⟨rfl, rfl, rfl, by decide +kernel, rfl, by decide +kernel, by decide +kernel⟩
theorem ok__law_refusal (T : Txt K mg t) : FnOk P w K mg base CX0 1 t.f__law_refusal t.d__law_refusal ["_law_kept"] (sp_refusal K t) := by
  refine T._law_refusal.fn.ok sc__law_refusal (fun vs H Q E h => ?_) (fun cdv A outer s H vs Q E hr h => ?_)
  · obtain ⟨a, C, wd, rfl, _⟩ := h
    rfl
  obtain ⟨a, C, wd, rfl, he, hcw, kk⟩ := h
  have hF : ∃ (b1 b2 b3 b4 b5 : Bool) (j : Nat), Five K t C b1 b2 b3 b4 b5 ∧ ([V.bl b1, .bl b2, .bl b3, .bl b4, .bl b5].countP fun y => eqV y (.bl true)) = 1 ∧ (∃ hj : j < 5, eqV ([V.bl b1, .bl b2, .bl b3, .bl b4, .bl b5][j]) (.bl true) = true) ∧
      (∀ (m : Nat) (hm : m < 5), m < j → eqV ([V.bl b1, .bl b2, .bl b3, .bl b4, .bl b5][m]) (.bl true) = false) ∧ atI [V.str "picture", .str "size", .str "system", .str "text", .str "unlike"] (j : Int) = some (.str wd) := by
    rcases hcw with ⟨rfl, rfl⟩ | ⟨rfl, rfl⟩
    · exact ⟨true, false, false, false, false, 0, ⟨T.i_BadPicture, T.k_BadPicture_BadPicture, T.k_BadPicture_BadSize, T.k_BadPicture_BadSystem, T.k_BadPicture_BadText, T.k_BadPicture_Unlike, T.k_BadPicture_ValueError⟩, rfl, ⟨by decide, rfl⟩, fun m hm h => absurd h (by omega), rfl⟩
    · refine ⟨false, false, true, false, false, 2, ⟨T.i_BadSystem, T.k_BadSystem_BadPicture, T.k_BadSystem_BadSize, T.k_BadSystem_BadSystem, T.k_BadSystem_BadText, T.k_BadSystem_Unlike, T.k_BadSystem_ValueError⟩, rfl, ⟨by decide, rfl⟩, fun m hm h => ?_, rfl⟩
      match m, h with
      | 0, _ => rfl
      | 1, _ => rfl
      | m + 2, h => exact absurd h (by omega)
  obtain ⟨b1, b2, b3, b4, b5, j, F, hcount, ⟨hj, hjt⟩, hno, hat⟩ := hF
  refine ⟨_, (pss_cons (ps_if (pt_cmp (pc_isN (pv 0))) (pss_one (ps_ret pe_str)) pss_nil) (pss_cons (ps_set (i := 1) sc__law_refusal.nd rfl (by first | exact Or.inl rfl | exact Or.inr rfl) (pe_lst (pa_cons (pe_callB (kIsinstance K) (by rfl) T.n_isinstance boot_isinstance (pa_cons (pv 0) (pa_cons (pe_glob (v := .ref t.c_BadPicture) rfl T.m_BadPicture rfl) pa_nil))) (pa_cons (pe_callB (kIsinstance K) (by rfl) T.n_isinstance boot_isinstance (pa_cons (pv 0) (pa_cons (pe_glob (v := .ref t.c_BadSize) rfl T.m_BadSize rfl) pa_nil))) (pa_cons (pe_callB (kIsinstance K) (by rfl) T.n_isinstance boot_isinstance (pa_cons (pv 0) (pa_cons (pe_glob (v := .ref t.c_BadSystem) rfl T.m_BadSystem rfl) pa_nil))) pa_nil))))) (pss_cons (ps_set (i := 1) sc__law_refusal.nd rfl (by first | exact Or.inl rfl | exact Or.inr rfl) (pe_op op_cat (pv 1) (pe_lst (pa_cons (pe_callB (kIsinstance K) (by rfl) T.n_isinstance boot_isinstance (pa_cons (pv 0) (pa_cons (pe_glob (v := .ref t.c_BadText) rfl T.m_BadText rfl) pa_nil))) (pa_cons (pe_callB (kIsinstance K) (by rfl) T.n_isinstance boot_isinstance (pa_cons (pv 0) (pa_cons (pe_glob (v := .ref t.c_Unlike) rfl T.m_Unlike rfl) pa_nil))) pa_nil))))) (pss_cons (ps_if (PW.pt (pw_or (pt_cmpR op_ne (kBm K PySem.F.plainAttrs_list PySem.F.slot_list_count PySem.F.type_list_count (kCount K) (pv 1) (pa_cons pe_bl pa_nil)) pe_int (nomark _)) (pw_or1 (pt_not (pt_val (pe_callB (kIsinstance K) (by rfl) T.n_isinstance boot_isinstance (pa_cons (pv 0) (pa_cons (pe_bltn (v := .ty "ValueError") rfl T.n_ValueError PyProof.Rows.Boot.ValueError rfl) pa_nil)))))))) (pss_one (ps_ret pe_str)) pss_nil) (pss_one (ps_ret (pe_ix (kIxL K) (pe_lst (pa_cons pe_str (pa_cons pe_str (pa_cons pe_str (pa_cons pe_str (pa_cons pe_str pa_nil)))))) (kBm K PySem.F.plainAttrs_list PySem.F.slot_list_index PySem.F.type_list_index (kIndex K) (pv 1) (pa_cons pe_bl pa_nil)) (fun _ _ => rfl)))))))), ?_⟩
  refine rq_if (b := false) (gt_eq (gt_tB (gv_isN (gv_var (by rfl)))) (by simp)) (fun c H1 s1 => absurd c (by decide)) fun c H1 s1 => ?_
  have isi : ∀ {σ : L2.St} {Hx : Hp} {tt : TA} {c : V} {b : Bool}, Same H Hx → Ga tt σ Hx [.ref a, c] → ((∃ x, c = .ref x) ∨ ∃ n, c = .ty n) → PySem.W.kitOne K (.ref C) (clsV c) = some b → Gv (tCB (fun xs H Q => ∃ x c t b, xs = [x, c] ∧ ((∃ a, c = .ref a) ∨ ∃ n, c = .ty n) ∧ TyV K H x t ∧ PySem.W.kitOne K t (clsV c) = some b ∧ Q (.bl b) H) tt) σ Hx (.bl b) :=
    fun s hg hc hk => gv_isiE hg hc (s _ _ he) F.is hk
  refine rq_set' (gn_to (gn_lst (xs := [.bl b1, .bl b2, .bl b3]) (ga_cons (isi s1 (ga_cons (gv_var (by rfl)) fun _ _ => ga_1 gv_c) (.inl ⟨_, rfl⟩) F.k1) fun H2 s2 => ga_cons (isi (s1.trans s2) (ga_cons (gv_var (by rfl)) fun _ _ => ga_1 gv_c) (.inl ⟨_, rfl⟩) F.k2) fun H3 s3 => ga_1 (isi ((s1.trans s2).trans s3) (ga_cons (gv_var (by rfl)) fun _ _ => ga_1 gv_c) (.inl ⟨_, rfl⟩) F.k3)) (by show 3 ≤ sizeLine; decide)) fun l1 H2 hl1 s2 hl1' => ?_)
  have s02 := s1.trans s2
  refine rq_set' (gn_to (gn_cat (ys := [.bl b4, .bl b5]) (gv_var (by rfl)) hl1' (fun H3 s3 => gn_lst (ga_cons (isi (s02.trans s3) (ga_cons (gv_var (by rfl)) fun _ _ => ga_1 gv_c) (.inl ⟨_, rfl⟩) F.k4) fun H4 s4 => ga_1 (isi ((s02.trans s3).trans s4) (ga_cons (gv_var (by rfl)) fun _ _ => ga_1 gv_c) (.inl ⟨_, rfl⟩) F.k5)) (by show 2 ≤ sizeLine; decide)) (by show 5 ≤ sizeLine; decide)) fun l2 H3 hl2 s3 hl2' => ?_)
  have s03 := s02.trans s3
  have hq2 : SqL K H3 l2 [V.bl b1, .bl b2, .bl b3, .bl b4, .bl b5] := SqL.of hl2'
  refine rq_if (b := false) (gt_eq (gt_or (q := false) (gt_test (gv_neI (gv_count (gv_var (by rfl)) hq2 (fun _ _ => ga_1 gv_c) (by rfl) (by rfl)) (fun _ _ => gv_c) (by rfl))) fun _ H4 s4 => gt_eq (gt_not (gt_tB (isi (s03.trans s4) (ga_cons (gv_var (by rfl)) fun _ _ => ga_1 gv_c) (.inr ⟨_, rfl⟩) F.k6))) rfl) ?_) (fun c H4 s4 => absurd c (by decide)) fun c H4 s4 => ?_
  · rw [hcount]; rfl
  refine rs_ret (gv_ixN (K := K) (xs := [.str "picture", .str "size", .str "system", .str "text", .str "unlike"]) (gn_lst (ga_cons gv_c fun _ _ => ga_cons gv_c fun _ _ => ga_cons gv_c fun _ _ => ga_cons gv_c fun _ _ => ga_1 gv_c) (by show 5 ≤ sizeLine; decide))
    (fun H5 s5 => gv_index (j := j) (gv_var (by rfl)) ((s4.trans s5).seq hq2) (fun _ _ => ga_1 gv_c) (by rfl) (by rfl) hj hjt hno) hat) fun H5 s5 => kk H5 (s03.trans (s4.trans s5))


section
variable {tt : TT} {ts us : TS} {D : Ends} {σ : L2.St} {H : Hp} {ta tb : TE} {R : VK}
theorem t_ifT (h : Gt tt σ H true) (k : ∀ H', Same H H' → ta σ H' R) : tIf tt ta tb σ H R := h _ fun H' s => by rw [if_pos rfl]; exact k H' s
theorem t_ifF (h : Gt tt σ H false) (k : ∀ H', Same H H' → tb σ H' R) : tIf tt ta tb σ H R := h _ fun H' s => by rw [if_neg Bool.false_ne_true]; exact k H' s
theorem rq_try {QC : Value} {n i : Nat} {tb : XK → TS} {th : TS} {Px : XK} {Rx : L2.St → Hp → Prop} (h1 : ∀ cls d H', Px cls d H' → xTry K QC n i th { D with nx := us D } cls d H') (h2 : ∀ σ H', Rx σ H' → us D σ H')
    (h : ∀ (E : XK) (nx : L2.St → Hp → Prop), (∀ cls d H', Px cls d H' → E cls d H') → (∀ σ H', Rx σ H' → nx σ H') → tb E { D with nx := nx } σ H) : tSeq (tTry K QC n i tb th) us D σ H := h _ _ h1 h2
end

def toldV (n : Nat) (x : Str) (ts : List (List Int)) (p : List Str) (rows : List (List Int)) : V :=
  if sysB x ts = true then (if n = 0 then .non else if picOk p = true then .bl (showB x ts p rows) else .str "picture") else .str "system"
def sp_told (K : PySem.W.Frag) : Sp := fun vs H Q _ => ∃ (n : Nat) (a b r : Addr) (x : Str) (ts : List (List Int)) (p : List Str) (rows : List (List Int)), vs = [.int n, .ref a, .ref b, .ref r] ∧ SysAt K H a x ts ∧ Mild x ts ∧ SqL K H b (p.map V.str) ∧ Sm p ∧ RowsAt K H r rows ∧ ∀ H', Same H H' → Q (toldV n x ts p rows) H'
theorem sc__law_told : FnScope ["_law_way", "_law_system_here", "_law_picture", "_law_rows", "_law_kept", "_law_found", "e"] ["_law_way", "_law_system_here", "_law_picture", "_law_rows"] (defScope s__law_told) := ⟨rfl, rfl, rfl, by decide +kernel, rfl, by decide +kernel, by decide +kernel⟩
theorem ok__law_told (T : Txt K mg t) : FnOk P w K mg base CX0 5 t.f__law_told t.d__law_told ["_law_way", "_law_system_here", "_law_picture", "_law_rows"] (sp_told K) := by
  have G_look_system : FnOk P w K mg base (CX1 P w) 3 t.f_look_system t.d_look_system ["system"] (sp_lookS K t.c_BadSystem) := ok_look_system T
  have G_shows : FnOk P w K mg base (CX1 P w) 4 t.f_shows t.d_shows ["system", "picture", "rows"] (sp_shows K t.c_BadSystem t.c_BadPicture) := ok_shows T
  have G__law_refusal : FnOk P w K mg base CX0 1 t.f__law_refusal t.d__law_refusal ["_law_kept"] (sp_refusal K t) := ok__law_refusal T
  refine T._law_told.fn.ok sc__law_told (fun vs H Q E h => ?_) (fun cdv A outer s H vs Q E hr h => ?_)
  · obtain ⟨n, a, b, r, x, ts, p, rows, rfl, _⟩ := h
    rfl
  obtain ⟨n, a, b, r, x, ts, p, rows, rfl, hA, hM, hb, hSm, hR, k⟩ := h
  refine ⟨_, (pss_cons (ps_set (i := 4) sc__law_told.nd rfl (by first | exact Or.inl rfl | exact Or.inr rfl) pe_non) (pss_cons (ps_set (i := 5) sc__law_told.nd rfl (by first | exact Or.inl rfl | exact Or.inr rfl) pe_non) (pss_cons (ps_try (i := 6) rfl rfl rfl T.m_QuiltError sc__law_told.nd rfl rfl (fun ps xe E hP => (pss_one (ps_set (i := 5) sc__law_told.nd rfl (by first | exact Or.inl rfl | exact Or.inr rfl) (pe_ifExp (pt_cmpR op_eq (pv 0) pe_int (nomark _)) (pe_callD T.look_system G_look_system (hr.mono (by first | decide | omega)) hP (pa_cons (pv 1) pa_nil)) (pe_callD T.shows G_shows (hr.mono (by first | decide | omega)) hP (pa_cons (pv 1) (pa_cons (pv 2) (pa_cons (pv 3) pa_nil)))))))) (fun _ => (pss_one (ps_set (i := 4) sc__law_told.nd rfl (by first | exact Or.inl rfl | exact Or.inr rfl) (pv 6))))) (pss_one (ps_ret (pe_ifExp (pt_cmp (pc_isN (pv 4))) (pv 5) (pe_callD T._law_refusal G__law_refusal (hr.mono (by first | decide | omega)) pass0 (pa_cons (pv 4) pa_nil)))))))), ?_⟩
  refine rq_set gv_c fun H1 s1 => ?_
  refine rq_set gv_c fun H2 s2 => ?_
  have s02 := s1.trans s2
  refine rq_try (Px := fun cls _ H' => Same H H' ∧ ((toldV n x ts p rows = .str "picture" ∧ cls = .ref t.c_BadPicture) ∨ (toldV n x ts p rows = .str "system" ∧ cls = .ref t.c_BadSystem)))
    (Rx := fun σ H' => Same H H' ∧ σ = [some (.int n), some (.ref a), some (.ref b), some (.ref r), some .non, some (toldV n x ts p rows), none]) ?_ ?_ ?_
  · rintro cls d H' ⟨s', hc⟩
    obtain ⟨C, wd, rfl, hcw, hx, kq⟩ : ∃ (C : Addr) (wd : Str), cls = .ref C ∧ ((C = t.c_BadPicture ∧ wd = "picture") ∨ (C = t.c_BadSystem ∧ wd = "system")) ∧ PySem.W.exmOne K (.ref C) (.ref t.c_QuiltError) = some true ∧ ∀ H', Same H H' → Q (.str wd) H' := by
      rcases hc with ⟨e, rfl⟩ | ⟨e, rfl⟩
      · exact ⟨_, _, rfl, .inl ⟨rfl, rfl⟩, T.h_BadPicture_QuiltError, by rw [e] at k; exact k⟩
      · exact ⟨_, _, rfl, .inr ⟨rfl, rfl⟩, T.h_BadSystem_QuiltError, by rw [e] at k; exact k⟩
    refine ⟨hx, fun e he => ?_⟩
    refine rs_set (gv_var (by rfl)) fun H4 s4 => ?_
    have he4 : H4 e = some (excO e (.ref C)) := s4 _ _ upd_same
    refine rs_ret (v := .str wd) (gv_if (p := false) (gt_eq (gt_tB (gv_isN (gv_var (by rfl)))) (by simp)) (fun z => absurd z (by decide)) fun _ H5 s5 => gv_call (ga_1 (gv_var (by rfl))) fun H6 R' s6 k6 => ⟨e, C, wd, rfl, (s5.trans s6) _ _ he4, hcw, k6⟩) fun H5 s5 => ?_
    exact kq H5 ((s'.trans (Same.new he _)).trans (s4.trans s5))
  · rintro σ H' ⟨s', rfl⟩
    refine rs_ret (v := toldV n x ts p rows) (gv_if (p := true) (gt_eq (gt_tB (gv_isN (gv_var (by rfl)))) (by simp)) (fun _ H5 s5 => gv_var (by rfl)) fun z => absurd z (by decide)) fun H5 s5 => ?_
    exact k H5 (s'.trans s5)
  · intro E nx hE hnx
    by_cases h0 : n = 0
    · subst h0
      refine rs_set' (t_ifT (gt_eq (gt_test (gv_eqI (gv_var (by rfl)) (fun _ _ => gv_c) (by rfl))) (by simp)) fun H6 s6 => tcall (ga_1 (gv_var (by rfl))) fun H7 s7 => ?_)
      have s07 := s02.trans (s6.trans s7)
      refine ⟨a, x, ts, rfl, hA.same s07, hM, fun c H8 s8 => hnx _ _ ⟨s07.trans s8, ?_⟩, fun c H8 s8 => hE _ _ _ ⟨s07.trans s8, .inr ⟨?_, rfl⟩⟩⟩
      · have e : toldV 0 x ts p rows = .non := by unfold toldV; rw [if_pos c, if_pos rfl]
        rw [e]
        rfl
      · unfold toldV; rw [if_neg (by rw [c]; decide)]
    · refine rs_set' (t_ifF (gt_eq (gt_test (gv_eqI (gv_var (by rfl)) (fun _ _ => gv_c) (by rfl))) (by simp; omega)) fun H6 s6 => tcall (ga_cons (gv_var (by rfl)) fun _ _ => ga_cons (gv_var (by rfl)) fun _ _ => ga_1 (gv_var (by rfl))) fun H7 s7 => ?_)
      have s07 := s02.trans (s6.trans s7)
      refine ⟨a, b, r, x, ts, p, rows, rfl, hA.same s07, hM, s07.seq hb, hSm, hR.same s07, fun c H8 s8 => hE _ _ _ ⟨s07.trans s8, .inr ⟨?_, rfl⟩⟩, fun c c2 H8 s8 => hE _ _ _ ⟨s07.trans s8, .inl ⟨?_, rfl⟩⟩, fun c c2 H8 s8 => hnx _ _ ⟨s07.trans s8, ?_⟩⟩
      · unfold toldV; rw [if_neg (by rw [c]; decide)]
      · unfold toldV; rw [if_pos c, if_neg h0, if_neg (by rw [c2]; decide)]
      · have e : toldV n x ts p rows = .bl (showB x ts p rows) := by unfold toldV; rw [if_pos c, if_neg h0, if_pos c2]
        rw [e]
        rfl
end
end K02

namespace L2
open PySem PySem.Spec PyProof.Rows
theorem best_max (f : Nat → Int) : ∀ (j i : Nat), i ≤ j → f i ≤ f (argBest (fun i j => decide (f i > f j)) j)
  | 0, i, h => by
    have : i = 0 := by omega
    subst this
    exact Int.le_refl _
  | j + 1, i, h => by
    have ih := best_max f j
    unfold argBest
    by_cases c : f (j + 1) > f (argBest (fun i j => decide (f i > f j)) j)
    · rw [if_pos (decide_eq_true c)]
      rcases Nat.lt_or_ge i (j + 1) with q | q
      · have := ih i (by omega)
        omega
      · have : i = j + 1 := by omega
        rw [this]
        exact Int.le_refl _
    · rw [if_neg (by simpa using c)]
      rcases Nat.lt_or_ge i (j + 1) with q | q
      · exact ih i (by omega)
      · have : i = j + 1 := by omega
        rw [this]
        omega
theorem best_min (f : Nat → Int) : ∀ (j i : Nat), i ≤ j → f (argBest (fun i j => decide (f i < f j)) j) ≤ f i
  | 0, i, h => by
    have : i = 0 := by omega
    subst this
    exact Int.le_refl _
  | j + 1, i, h => by
    have ih := best_min f j
    unfold argBest
    by_cases c : f (j + 1) < f (argBest (fun i j => decide (f i < f j)) j)
    · rw [if_pos (decide_eq_true c)]
      rcases Nat.lt_or_ge i (j + 1) with q | q
      · have := ih i (by omega)
        omega
      · have : i = j + 1 := by omega
        rw [this]
        exact Int.le_refl _
    · rw [if_neg (by simpa using c)]
      rcases Nat.lt_or_ge i (j + 1) with q | q
      · exact ih i (by omega)
      · have : i = j + 1 := by omega
        rw [this]
        omega
section
variable {X : Cx}
theorem call_any : CallR X (.builtin "any") (fun xs H Q => X.calm = true ∧ ∃ (a : Addr) (bs : List Bool), xs = [.ref a] ∧ SqL X.K H a (bs.map V.bl) ∧ Q (.bl (bs.any fun b => b)) H) := by
  intro pins s σ H xs us Q I r h
  obtain ⟨hc, a, bs, rfl, hq, q⟩ := h
  obtain ⟨u, rfl, ru⟩ := vals1 r
  cases ru
  obtain ⟨its, rv, p, hz⟩ := I.list hq
  have hlen := rv.length
  rw [List.length_map] at hlen
  refine call_any_walk (wpAny_pyIter_list p.isList ?_)
  have ha : a ≠ s.heap.objs.size := by obtain ⟨o, n, e, _⟩ := p; exact Nat.ne_of_lt (Heap.lt_size e)
  refine ⟨s.heap.objs.size, _, _, _, _, _, fun i => (bs[i]?).getD false, rfl, Walks.list (by rw [Around.in1_handled]; exact I.ok.hd hc) s.heap.objs.size a ha its.toArray, ?_, ?_, fun h' tk k => ?_⟩
  · exact ⟨⟨_, Heap.get?_push_size _ rfl, rfl, rfl⟩, p.isList.push _⟩
  · intro i v s' Q' E' hv hq'
    have hv' : its.toArray[i]? = some v := hv
    have hi : its[i]? = some v := by simpa using hv'
    have hil : i < bs.length := by rw [hlen]; exact (List.getElem?_eq_some_iff.mp hi).1
    obtain ⟨u', hu', ru'⟩ := rv.get (i := i) (x := .bl bs[i]) (by rw [List.getElem?_map, List.getElem?_eq_getElem hil]; rfl)
    rw [hi] at hu'
    cases hu'
    cases ru'
    have hq2 : Q' ((bs[i]?).getD false) s' := hq'
    rw [List.getElem?_eq_getElem hil] at hq2
    exact wpAny_truthy_bool hq2
  · have e : (List.range its.toArray.size).any (fun i => (bs[i]?).getD false) = bs.any fun b => b := by
      rw [List.size_toArray, ← hlen]
      rw [Bool.eq_iff_iff]
      simp only [List.any_eq_true, List.mem_range]
      constructor
      · rintro ⟨i, hi, z⟩
        rw [List.getElem?_eq_getElem hi] at z
        exact ⟨_, List.getElem_mem hi, z⟩
      · rintro ⟨b, hb, z⟩
        obtain ⟨i, hi, e⟩ := List.mem_iff_getElem.mp hb
        refine ⟨i, hi, ?_⟩
        rw [List.getElem?_eq_getElem hi]
        show bs[i] = true
        rw [e]; exact z
    rw [e]
    have I2 : Inv X pins σ H { s with heap := s.heap.push { cls := .type "list_iterator", data := .fields #[.ref a, .int 0 0] } } := I.kept (t' := s.toks) fun b o e => Heap.get?_push_of_some _ e
    exact ⟨.bl _, H, I.kept (t' := tk) (h' := h') fun b o e => k b o (by simp; exact Nat.ne_of_lt (Heap.lt_size e)) (Heap.get?_push_of_some _ e), rfl, q⟩

theorem call_maxT : CallR X (.builtin "max") (fun xs H Q => X.calm = true ∧ ∃ (a : Addr) (ns : List Int), xs = [.ref a] ∧ SqT X.K H a (ns.map V.int) ∧ ns ≠ [] ∧ ∀ m ∈ ns, (∀ k ∈ ns, k ≤ m) → Q (.int m) H) := by
  intro pins s σ H xs us Q I r h
  obtain ⟨hc, a, ns, rfl, hq, hne, q⟩ := h
  obtain ⟨u, rfl, ru⟩ := vals1 r
  cases ru
  obtain ⟨its, rv, p, hz⟩ := I.tuple hq
  have hlen := rv.length
  rw [List.length_map] at hlen
  refine call_max_walk (wpAny_pyIter_tuple (t := a) (items := its.toArray) p ?_)
  have ha : a < s.heap.objs.size := by obtain ⟨o, e, _⟩ := p; exact Heap.lt_size e
  have hh : X.A.in1.handled = none := by rw [Around.in1_handled]; exact I.ok.hd hc
  have at_ : ∀ (i : Nat) (v : Value), its.toArray[i]? = some v → ∃ (hi : i < ns.length) (t : Tok), v = .int ns[i] t := fun i v hv => by
    have hi : its[i]? = some v := by simpa using hv
    have hil : i < ns.length := by rw [hlen]; exact (List.getElem?_eq_some_iff.mp hi).1
    obtain ⟨u', hu', t, ru'⟩ := rv.get (i := i) (x := .int ns[i]) (by rw [List.getElem?_map, List.getElem?_eq_getElem hil]; rfl)
    rw [hi] at hu'
    cases hu'
    exact ⟨hil, t, ru'⟩
  refine ⟨s.heap.objs.size, _, _, _, _, _, fun i j => decide ((ns[i]?).getD 0 > (ns[j]?).getD 0), rfl, Walks.tuple hh s.heap.objs.size a (Nat.ne_of_lt ha) its.toArray, ?_, ?_, ?_, ?_, fun v h' tk hv k => ?_⟩
  · exact ⟨⟨_, Heap.get?_push_size _ rfl, rfl, rfl⟩, (let ⟨o, e, r⟩ := p; ⟨o, Heap.get?_push_of_some _ e, r⟩)⟩
  · intro b hb
    simp only [List.mem_cons, List.mem_nil_iff, or_false] at hb
    show b < (s.heap.push _).objs.size
    rw [Heap.size_push]
    rcases hb with h | h <;> rw [h]
    · exact Nat.lt_succ_self _
    · exact Nat.lt_succ_of_lt ha
  · rw [List.size_toArray, ← hlen]
    exact List.length_pos_iff.mpr hne
  · intro i j vi vj s' Q' E' hi hj hq'
    obtain ⟨h1, t1, rfl⟩ := at_ i vi hi
    obtain ⟨h2, t2, rfl⟩ := at_ j vj hj
    have hq2 : Q' (.bool (decide ((ns[i]?).getD 0 > (ns[j]?).getD 0))) s' := hq'
    rw [List.getElem?_eq_getElem h1, List.getElem?_eq_getElem h2] at hq2
    exact gt_int (A := X.A.in1) (by simpa using hq2)
  · obtain ⟨h1, t1, rfl⟩ := at_ _ v hv
    refine ⟨.int _, H, I.kept (t' := tk) (h' := h') fun b o e => k b o (by simp; exact Nat.ne_of_lt (Heap.lt_size e)) (Heap.get?_push_of_some _ e), ⟨t1, rfl⟩, q _ (List.getElem_mem h1) fun k hk => ?_⟩
    obtain ⟨i, hi, rfl⟩ := List.mem_iff_getElem.mp hk
    have := best_max (fun i => (ns[i]?).getD 0) (its.toArray.size - 1) i (by rw [List.size_toArray, ← hlen]; omega)
    rw [List.getElem?_eq_getElem hi, List.getElem?_eq_getElem h1] at this
    exact this
theorem call_minT : CallR X (.builtin "min") (fun xs H Q => X.calm = true ∧ ∃ (a : Addr) (ns : List Int), xs = [.ref a] ∧ SqT X.K H a (ns.map V.int) ∧ ns ≠ [] ∧ ∀ m ∈ ns, (∀ k ∈ ns, m ≤ k) → Q (.int m) H) := by
  intro pins s σ H xs us Q I r h
  obtain ⟨hc, a, ns, rfl, hq, hne, q⟩ := h
  obtain ⟨u, rfl, ru⟩ := vals1 r
  cases ru
  obtain ⟨its, rv, p, hz⟩ := I.tuple hq
  have hlen := rv.length
  rw [List.length_map] at hlen
  refine call_min_walk (wpAny_pyIter_tuple (t := a) (items := its.toArray) p ?_)
  have ha : a < s.heap.objs.size := by obtain ⟨o, e, _⟩ := p; exact Heap.lt_size e
  have hh : X.A.in1.handled = none := by rw [Around.in1_handled]; exact I.ok.hd hc
  have at_ : ∀ (i : Nat) (v : Value), its.toArray[i]? = some v → ∃ (hi : i < ns.length) (t : Tok), v = .int ns[i] t := fun i v hv => by
    have hi : its[i]? = some v := by simpa using hv
    have hil : i < ns.length := by rw [hlen]; exact (List.getElem?_eq_some_iff.mp hi).1
    obtain ⟨u', hu', t, ru'⟩ := rv.get (i := i) (x := .int ns[i]) (by rw [List.getElem?_map, List.getElem?_eq_getElem hil]; rfl)
    rw [hi] at hu'
    cases hu'
    exact ⟨hil, t, ru'⟩
  refine ⟨s.heap.objs.size, _, _, _, _, _, fun i j => decide ((ns[i]?).getD 0 < (ns[j]?).getD 0), rfl, Walks.tuple hh s.heap.objs.size a (Nat.ne_of_lt ha) its.toArray, ?_, ?_, ?_, ?_, fun v h' tk hv k => ?_⟩
  · exact ⟨⟨_, Heap.get?_push_size _ rfl, rfl, rfl⟩, (let ⟨o, e, r⟩ := p; ⟨o, Heap.get?_push_of_some _ e, r⟩)⟩
  · intro b hb
    simp only [List.mem_cons, List.mem_nil_iff, or_false] at hb
    show b < (s.heap.push _).objs.size
    rw [Heap.size_push]
    rcases hb with h | h <;> rw [h]
    · exact Nat.lt_succ_self _
    · exact Nat.lt_succ_of_lt ha
  · rw [List.size_toArray, ← hlen]
    exact List.length_pos_iff.mpr hne
  · intro i j vi vj s' Q' E' hi hj hq'
    obtain ⟨h1, t1, rfl⟩ := at_ i vi hi
    obtain ⟨h2, t2, rfl⟩ := at_ j vj hj
    have hq2 : Q' (.bool (decide ((ns[i]?).getD 0 < (ns[j]?).getD 0))) s' := hq'
    rw [List.getElem?_eq_getElem h1, List.getElem?_eq_getElem h2] at hq2
    exact lt_int (A := X.A.in1) (by simpa using hq2)
  · obtain ⟨h1, t1, rfl⟩ := at_ _ v hv
    refine ⟨.int _, H, I.kept (t' := tk) (h' := h') fun b o e => k b o (by simp; exact Nat.ne_of_lt (Heap.lt_size e)) (Heap.get?_push_of_some _ e), ⟨t1, rfl⟩, q _ (List.getElem_mem h1) fun k hk => ?_⟩
    obtain ⟨i, hi, rfl⟩ := List.mem_iff_getElem.mp hk
    have := best_min (fun i => (ns[i]?).getD 0) (its.toArray.size - 1) i (by rw [List.size_toArray, ← hlen]; omega)
    rw [List.getElem?_eq_getElem hi, List.getElem?_eq_getElem h1] at this
    exact this

end
section
variable {X : Cx} (K : PySem.W.Frag)
theorem kAny (h : X.K = K := by rfl) (hc : X.calm = true := by rfl) : CallR X (.builtin "any") (fun xs H Q => ∃ (a : Addr) (bs : List Bool), xs = [.ref a] ∧ SqL K H a (bs.map V.bl) ∧ Q (.bl (bs.any fun b => b)) H) := by
  subst h
  intro pins s σ H xs us Q I r q
  exact call_any pins s σ H xs us Q I r ⟨hc, q⟩
theorem kMaxT (h : X.K = K := by rfl) (hc : X.calm = true := by rfl) : CallR X (.builtin "max") (fun xs H Q => ∃ (a : Addr) (ns : List Int), xs = [.ref a] ∧ SqT K H a (ns.map V.int) ∧ ns ≠ [] ∧ ∀ m ∈ ns, (∀ k ∈ ns, k ≤ m) → Q (.int m) H) := by
  subst h
  intro pins s σ H xs us Q I r q
  exact call_maxT pins s σ H xs us Q I r ⟨hc, q⟩
theorem kMinT (h : X.K = K := by rfl) (hc : X.calm = true := by rfl) : CallR X (.builtin "min") (fun xs H Q => ∃ (a : Addr) (ns : List Int), xs = [.ref a] ∧ SqT K H a (ns.map V.int) ∧ ns ≠ [] ∧ ∀ m ∈ ns, (∀ k ∈ ns, m ≤ k) → Q (.int m) H) := by
  subst h
  intro pins s σ H xs us Q I r q
  exact call_minT pins s σ H xs us Q I r ⟨hc, q⟩
end
end L2

set_option maxHeartbeats 1000000
namespace K02
open PySem PySem.Spec PyProof.Rows L2
section
variable {P : Program} {w : World} {K : PySem.W.Frag} {mg : Str → Option Value} {base : Heap} {t : Ad}
theorem strip_ok (r : Str) : decide (V.str (Txt.stripChars r "abcd") = V.str "") = lettersOk r := by
  have hg : ∀ c, abcd.cps.contains c = isL c := fun c => by unfold isL; simp
  have e : Txt.stripChars r "abcd" = Builtin.Str.strSub r (stripLo abcd.cps.contains true r) (stripHi abcd.cps.contains true r (stripLo abcd.cps.contains true r)) := stripBy_eq _ _ _ _
  obtain ⟨l1, l2, l3⟩ := lo_facts abcd.cps.contains r
  obtain ⟨h1, h2, h3, h4⟩ := hi_facts abcd.cps.contains r _ l1
  generalize stripLo abcd.cps.contains true r = lo at *
  generalize stripHi abcd.cps.contains true r lo = hi at *
  have hlen : (Txt.stripChars r "abcd").length = hi - lo := by rw [e, size_strSub r lo hi h2]
  have all_iff : lettersOk r = true ↔ ∀ k, k < r.length → abcd.cps.contains (r.cps.getD k 0) = true := by
    unfold lettersOk
    rw [List.all_eq_true]
    constructor
    · intro z k hk
      rw [hg]
      refine z _ ?_
      have hk' : k < r.cps.size := hk
      simp [Array.getD, hk']
    · intro z c hc
      obtain ⟨k, hk, e⟩ := List.mem_iff_getElem.mp hc
      have hk' : k < r.cps.size := by simpa using hk
      have := z k hk'
      rw [hg] at this
      simp [Array.getD, hk'] at this
      rw [← e]
      simpa using this
  rw [Bool.eq_iff_iff, decide_eq_true_iff, all_iff]
  constructor
  · intro z k hk
    have z' : Txt.stripChars r "abcd" = "" := by injection z
    rw [z'] at hlen
    have h0 : (0 : Nat) = hi - lo := hlen
    by_cases hkl : k < lo
    · exact l2 k hkl
    · exact h3 k (by omega) hk
  · intro z
    have hlo : lo = r.length := by
      rcases l3 with q | q
      · exact q
      · by_cases hl : lo < r.length
        · rw [z lo hl] at q; cases q
        · omega
    have h0 : (Txt.stripChars r "abcd").length = 0 := by rw [hlen]; omega
    congr 1
    generalize Txt.stripChars r "abcd" = y at h0
    obtain ⟨c⟩ := y
    have : c.size = 0 := h0
    have : c = #[] := Array.eq_empty_of_size_eq_zero this
    rw [this]
    rfl

section
variable {te : TE} {us : TS} {D : Ends} {σ : L2.St} {H : Hp} {a : Addr} {u v : V} {i j : Nat} {tt : TA} {ns : List Int} {m : Int}
theorem rq_unpack2 (h : Gv te σ H (.ref a)) (hT : SqT K H a [u, v]) (k : ∀ H', Same H H' → us D ((σ.set i (some u)).set j (some v)) H') : tSeq (tAsg te (gTup K 2 (gCons (gName i) (gCons (gName j) gNil)))) us D σ H :=
  h _ fun H1 s1 => ⟨a, _, rfl, s1.tup hT, rfl, u, _, rfl, v, _, rfl, rfl, k H1 s1⟩
theorem gv_minT (h : Ga tt σ H [.ref a]) (hq : SqT K H a (ns.map V.int)) (hm : m ∈ ns) (hl : ∀ k ∈ ns, m ≤ k) : Gv (tCB (fun xs H Q => ∃ (a : Addr) (ns : List Int), xs = [.ref a] ∧ SqT K H a (ns.map V.int) ∧ ns ≠ [] ∧ ∀ m ∈ ns, (∀ k ∈ ns, m ≤ k) → Q (.int m) H) tt) σ H (.int m) :=
  fun R r => h _ fun H' s => ⟨a, ns, rfl, s.tup hq, List.ne_nil_of_mem hm, fun m' hm' h' => by
    have : m' = m := Int.le_antisymm (h' m hm) (hl m' hm')
    rw [this]
    exact r H' s⟩
theorem gv_maxT (h : Ga tt σ H [.ref a]) (hq : SqT K H a (ns.map V.int)) (hm : m ∈ ns) (hl : ∀ k ∈ ns, k ≤ m) : Gv (tCB (fun xs H Q => ∃ (a : Addr) (ns : List Int), xs = [.ref a] ∧ SqT K H a (ns.map V.int) ∧ ns ≠ [] ∧ ∀ m ∈ ns, (∀ k ∈ ns, k ≤ m) → Q (.int m) H) tt) σ H (.int m) :=
  fun R r => h _ fun H' s => ⟨a, ns, rfl, s.tup hq, List.ne_nil_of_mem hm, fun m' hm' h' => by
    have : m' = m := Int.le_antisymm (hl m' hm') (h' m hm)
    rw [this]
    exact r H' s⟩
end
theorem ex_min : ∀ ns : List Int, ns ≠ [] → ∃ m ∈ ns, ∀ k ∈ ns, m ≤ k
  | [], h => absurd rfl h
  | [a], _ => ⟨a, by simp, fun k hk => by rw [List.mem_singleton.mp hk]; exact Int.le_refl _⟩
  | a :: b :: r, _ => by
    obtain ⟨m, hm, hl⟩ := ex_min (b :: r) (by simp)
    by_cases c : a ≤ m
    · refine ⟨a, by simp, fun k hk => ?_⟩
      rcases List.mem_cons.mp hk with e | e
      · rw [e]; exact Int.le_refl _
      · have := hl k e; omega
    · refine ⟨m, List.mem_cons_of_mem _ hm, fun k hk => ?_⟩
      rcases List.mem_cons.mp hk with e | e
      · rw [e]; omega
      · exact hl k e
theorem ex_max : ∀ ns : List Int, ns ≠ [] → ∃ m ∈ ns, ∀ k ∈ ns, k ≤ m
  | [], h => absurd rfl h
  | [a], _ => ⟨a, by simp, fun k hk => by rw [List.mem_singleton.mp hk]; exact Int.le_refl _⟩
  | a :: b :: r, _ => by
    obtain ⟨m, hm, hl⟩ := ex_max (b :: r) (by simp)
    by_cases c : m ≤ a
    · refine ⟨a, by simp, fun k hk => ?_⟩
      rcases List.mem_cons.mp hk with e | e
      · rw [e]; exact Int.le_refl _
      · have := hl k e; omega
    · refine ⟨m, List.mem_cons_of_mem _ hm, fun k hk => ?_⟩
      rcases List.mem_cons.mp hk with e | e
      · rw [e]; omega
      · exact hl k e
theorem sc__law_good : FnScope ["_law_system_here", "_law_letters", "_law_tiles_here"] ["_law_system_here"] (defScope s__law_good) := ⟨rfl, rfl, rfl, by decide +kernel, rfl, by decide +kernel, by decide +kernel⟩
theorem ok__law_good (T : Txt K mg t) : FnOk P w K mg base CX0 1 t.f__law_good t.d__law_good ["_law_system_here"] (sp_is_system K) := by
  refine T._law_good.fn.ok sc__law_good (fun vs H Q E h => ?_) (fun cdv A outer s H vs Q E hr h => ?_)
  · obtain ⟨a, x, ts, rfl, _⟩ := h
    rfl
  obtain ⟨a, x, ts, rfl, ⟨L, hT, hrep⟩, hM, k⟩ := h
  have hsx := hM.short
  have hft := hM.few
  refine ⟨_, (pss_cons (ps_asg (pv 0) (kgTup K (n := 2) (pgs_cons (pg_name (i := 1) sc__law_good.nd rfl (by first | exact Or.inl rfl | exact Or.inr rfl)) (pgs_cons (pg_name (i := 2) sc__law_good.nd rfl (by first | exact Or.inl rfl | exact Or.inr rfl)) pgs_nil)))) (pss_cons (ps_if (PW.pt (pw_or (pt_cmpR op_gt (pe_callB (kLen K) (by rfl) T.n_len boot_len (pa_cons (pv 1) pa_nil)) pe_int (nomark _)) (pw_or1 (pt_cmpR op_ne (kBm K PySem.F.plainAttrs_str PySem.F.slot_str_strip PySem.F.type_str_strip mt_strip (pv 1) (pa_cons pe_str pa_nil)) pe_str (nomark _))))) (pss_one (ps_ret pe_bl)) pss_nil) (pss_cons (ps_if (pt_val (pe_callB (kAny K) (by rfl) T.n_any boot_any (pa_cons (pe_comp (N' := ["_law_tile", "_law_letters"]) (ix := [none, some 1]) (compScope_of (by kernel_rfl)) rfl (kiList K (pv 2)) (fun _ _ _ _ => (pg_name (i := 0) (show List.Nodup (["_law_tile", "_law_letters"] : List Str) from by decide +kernel) rfl (by first | exact Or.inl rfl | exact Or.inr rfl))) (fun _ _ _ _ => pf_nil) (fun _ _ _ _ => (pe_or (pe_cmpR op_ne (pe_callB (kLen K) (by rfl) T.n_len boot_len (pa_cons (pv 0) pa_nil)) pe_int (nomark _)) (pe_or (pe_cmpR op_lt (pe_callB (kMinT K) (by rfl) T.n_min boot_min (pa_cons (pv 0) pa_nil)) (pe_un un_neg pe_int) (nomark _)) (pe_one (pe_cmpR op_ge (pe_callB (kMaxT K) (by rfl) T.n_max boot_max (pa_cons (pv 0) pa_nil)) (pe_callB (kLen K) (by rfl) T.n_len boot_len (pa_cons (pv 1) pa_nil)) (nomark _))))))) pa_nil))) (pss_one (ps_ret pe_bl)) pss_nil) (pss_one (ps_ret (pe_callB (kAll K) (by rfl) T.n_all boot_all (pa_cons (pe_comp (N' := ["_law_k", "_law_tiles_here"]) (ix := [none, some 2]) (compScope_of (by kernel_rfl)) rfl (pi_range1 rfl T.n_range (pa_cons (pe_op op_sub (pe_callB (kLen K) (by rfl) T.n_len boot_len (pa_cons (pv 2) pa_nil)) pe_int) pa_nil)) (fun _ _ _ _ => (pg_name (i := 0) (show List.Nodup (["_law_k", "_law_tiles_here"] : List Str) from by decide +kernel) rfl (by first | exact Or.inl rfl | exact Or.inr rfl))) (fun _ _ _ _ => pf_nil) (fun _ _ _ _ => (pe_cmpR (kLtT K hr.units) (pe_ix (kIxL K) (pv 1) (pv 0) (fun _ _ => rfl)) (pe_ix (kIxL K) (pv 1) (pe_op op_add (pv 0) pe_int) (fun _ _ => rfl)) (nomark _)))) pa_nil))))))), ?_⟩
  refine rq_unpack2 (gv_var (by rfl)) hT fun H1 s1 => ?_
  refine rq_if (b := !(decide (x.length ≤ 16) && lettersOk x)) (gt_eq (gt_or (gt_test (gv_ii (gv_lenS (K := K) (ga_1 (gv_var (by rfl))) (small (by omega))) fun _ _ => gv_c)) fun _ H4 s4 => gt_test (gv_neI (gv_strip (gv_var (by rfl)) (small (by omega)) fun _ _ => ga_1 gv_c) (fun _ _ => gv_c) (by rfl))) ?_) (fun c H4 s4 => ?_) fun c H4 s4 => ?_
  · rw [Bool.not_and, strip_ok]
    congr 1
    by_cases c : x.length ≤ 16
    · rw [decide_eq_true c, decide_eq_false (by omega)]; rfl
    · rw [decide_eq_false c, decide_eq_true (by omega)]; rfl
  · have e : sysB x ts = false := by
      unfold sysB
      rw [Bool.not_eq_true'] at c
      rw [c, Bool.false_and]
    have := k H4 (s1.trans s4)
    rw [e] at this
    exact this
  have c' : (decide (x.length ≤ 16) && lettersOk x) = true := by simpa using c
  have s04 := s1.trans s4
  have hrep4 := hrep.same s04
  obtain ⟨xs, hq, hr0⟩ := rep_list hrep4
  have hxl : xs.length = ts.length := by rw [hr0.length, List.length_map]
  have at_ : ∀ i, i < ts.length → ∃ c, xs[i]? = some (.ref c) ∧ SqT K H4 c ((ts.getD i []).map V.int) := fun i hi => by
    obtain ⟨v, hv, hr⟩ := hr0.get i (tupI (ts.getD i [])) (by rw [List.getElem?_map, List.getD_eq_getElem?_getD, List.getElem?_eq_getElem hi]; rfl)
    obtain ⟨c, rfl, hc⟩ := rep_tupI.mp hr
    exact ⟨c, hv, hc⟩
  refine rq_if (b := !(ts.all (tileB x.length))) (gt_tB (fun R r => ?_)) (fun d H5 s5 => ?_) fun d H5 s5 => ?_
  · refine tcb1 (tcompL (K := K) (gv_var (by rfl)) hq fun H5 s5 hq5 => ?_)
    refine comp_list_idx (fun i => .bl (!(tileB x.length (ts.getD i [])))) hq5 (small (by omega)) (fun i v H6 R6 hv s6 k6 => ?_) fun D H6 hD s6 hDl => ?_
    · have hi : i < ts.length := by have := (List.getElem?_eq_some_iff.mp hv).1; omega
      obtain ⟨c, hcv, hc⟩ := at_ i hi
      rw [hv] at hcv
      cases hcv
      have s56 := s5.trans s6
      generalize ts.getD i [] = tl at hc k6
      by_cases h4 : tl.length = 4
      · have hne : tl ≠ [] := fun e => by rw [e] at h4; simp at h4
        obtain ⟨mn, hmn, hmnl⟩ := ex_min tl hne
        obtain ⟨mx, hmx, hmxl⟩ := ex_max tl hne
        refine gv_to (gv_eq (gv_or (gv_neI (gv_lenT (K := K) (ga_1 (gv_var (by rfl))) (s56.tup hc)) (fun _ _ => gv_c) (by rfl)) fun _ H7 s7 => gv_or (gv_ii (gv_minT (K := K) (ga_1 (gv_var (by rfl))) ((s56.trans s7).tup hc) hmn hmnl) fun _ _ => gv_neg gv_c) fun _ H8 s8 => gv_ii (gv_maxT (K := K) (ga_1 (gv_var (by rfl))) ((s56.trans (s7.trans s8)).tup hc) hmx hmxl) fun _ _ => gv_lenS (K := K) (ga_1 (gv_var (by rfl))) (small (by omega))) (y := .bl (!(tileB x.length tl))) ?_) fun H7 s7 => k6 H7 s7
        congr 1
        unfold tileB
        rw [List.length_map, h4]
        have e1 : (!decide (V.int ((4 : Nat) : Int) = V.int 4)) = false := by decide
        rw [e1, Bool.false_or, decide_eq_true rfl, Bool.true_and, Bool.eq_iff_iff]
        simp only [Bool.or_eq_true, decide_eq_true_eq, Bool.not_eq_true', Bool.eq_false_iff, ne_eq, List.all_eq_true, Bool.and_eq_true]
        constructor
        · rintro (q | q) z
          · have := (z mn hmn).1; omega
          · have := (z mx hmx).2; omega
        · intro z
          by_cases q : mn < -1
          · exact .inl q
          · refine .inr ?_
            by_cases q2 : mx ≥ x.length
            · exact q2
            · refine absurd (fun f hf => ?_) z
              have h1 := hmnl f hf
              have h2 := hmxl f hf
              exact ⟨by omega, by omega⟩
      · refine gv_to (gv_eq (gv_or (p := true) (q := true) (gv_eq (gv_neI (gv_lenT (K := K) (ga_1 (gv_var (by rfl))) (s56.tup hc)) (fun _ _ => gv_c) (by rfl)) ?_) fun z => absurd z (by decide)) (y := .bl (!(tileB x.length tl))) ?_) fun H7 s7 => k6 H7 s7
        · congr 1
          rw [List.length_map]
          simp
          omega
        · unfold tileB
          rw [decide_eq_false h4]
          rfl
    · refine ⟨D, (List.range xs.length).map fun i => !(tileB x.length (ts.getD i [])), rfl, SqL.of (by rw [hDl, List.map_map]; rfl), ?_⟩
      have e : (((List.range xs.length).map fun i => !(tileB x.length (ts.getD i []))).any fun b => b) = !(ts.all (tileB x.length)) := by
        rw [hxl, ← map_getD' (fun t => !(tileB x.length t)) ts [], List.any_map, List.all_eq_not_any_not, Bool.not_not]
        rfl
      rw [e]
      exact r _ (s5.trans s6)
  · have e : sysB x ts = false := by
      unfold sysB
      rw [Bool.not_eq_true'] at d
      rw [d, Bool.false_and, Bool.and_false]
    have := k H5 (s04.trans s5)
    rw [e] at this
    exact this
  have d' : ts.all (tileB x.length) = true := by simpa using d
  have e : sysB x ts = riseB ts := by unfold sysB; rw [c', d', Bool.true_and, Bool.true_and]
  rw [e] at k
  refine rs_ret' (tcb1 (tcompR (jj := (ts.length : Int) - 1) (ga_1 (gv_eq (gv_ii (gv_lenL (K := K) (ga_1 (gv_var (by rfl))) (s5.seq hq)) fun _ _ => gv_c) (by rw [hxl]))) (by omega) (by omega) fun H6 s6 => ?_))
  have hn : ((ts.length : Int) - 1).toNat = ts.length - 1 := by omega
  rw [hn]
  have s56 := s5.trans s6
  refine comp_range_map (fun i => .bl (HT.lexLt (ts.getD i []) (ts.getD (i + 1) []))) (small (by omega)) (fun i H7 R hi s7 k7 => ?_) fun D H7 hD s7 hDl => ?_
  · obtain ⟨c, hc, qc⟩ := at_ i (by omega)
    obtain ⟨d, hd, qd⟩ := at_ (i + 1) (by omega)
    have s57 := s56.trans s7
    refine gv_to (gv_ltT (K := K) (gv_ixL (K := K) (gv_var (by rfl)) (fun _ _ => gv_eq (gv_var (by rfl)) (y := .int (i : Int)) (by congr 1; omega)) (s57.seq hq) (atI_nat hc)) (fun H8 s8 => gv_ixL (K := K) (gv_var (by rfl)) (fun _ _ => gv_eq (gv_ii (gv_var (by rfl)) fun _ _ => gv_c) (y := .int ((i + 1 : Nat) : Int)) (by congr 1; omega)) ((s57.trans s8).seq hq) (atI_nat hd)) (s57.tup qc) (s57.tup qd)) fun H8 s8 => k7 H8 s8
  · refine ⟨D, (List.range (ts.length - 1)).map fun i => HT.lexLt (ts.getD i []) (ts.getD (i + 1) []), rfl, SqL.of (by rw [hDl, List.map_map]; rfl), ?_⟩
    rw [List.all_map, show (List.range (ts.length - 1)).all ((fun b => b) ∘ fun i => HT.lexLt (ts.getD i []) (ts.getD (i + 1) [])) = riseB ts from rise_range ts]
    exact k _ (s04.trans (s56.trans s7))
end
end K02

namespace L2
open PySem PySem.Spec PyProof.Rows
def repS (x : Str) (n : Nat) : Str := ⟨(List.replicate n x.cps).foldl (· ++ ·) #[]⟩
theorem fold_list (l : List (Array Nat)) : ∀ a : Array Nat, (l.foldl (· ++ ·) a).toList = a.toList ++ (l.map Array.toList).flatten := by
  induction l with
  | nil => intro a; simp
  | cons b r ih => intro a; rw [List.foldl_cons, ih]; simp
theorem repS_list (x : Str) (n : Nat) : (repS x n).cps.toList = (List.replicate n x.cps.toList).flatten := by
  unfold repS
  rw [fold_list]
  simp
theorem repS_one (c n : Nat) : (repS ⟨#[c]⟩ n).cps.toList = List.replicate n c := by
  rw [repS_list]
  induction n with
  | zero => rfl
  | succ n ih => rw [List.replicate_succ, List.flatten_cons, ih, List.replicate_succ]; rfl
theorem repS_len (c n : Nat) : (repS ⟨#[c]⟩ n).length = n := by
  show (repS ⟨#[c]⟩ n).cps.size = n
  rw [← Array.length_toList, repS_one, List.length_replicate]
def rMulS : R2 := fun x y H Q => ∃ (c n : Nat), x = .str ⟨#[c]⟩ ∧ y = .int n ∧ 1 ≤ n ∧ n ≤ 1000 ∧ Q (.str (repS ⟨#[c]⟩ n)) H
section
variable {X : Cx}
theorem op_mulS : OpR X (binaryOp .Mult) rMulS := by
  intro pins s σ H x y v u Q I rx ry h
  obtain ⟨c, n, rfl, rfl, h1, h2, q⟩ := h
  obtain ⟨t, rfl⟩ := rx
  obtain ⟨t2, rfl⟩ := ry
  have hone : (⟨#[c]⟩ : Str).length = 1 := rfl
  refine PySem.P.mul_str ?_ (fun _ hx => ?_) (fun _ hx => ?_) ?_
  · rw [decide_eq_false (by omega), decide_eq_false (by omega)]; rfl
  · rw [hone]
    have : (1 : Int) ≤ (2 ^ 63 - 1) / (n : Int) := by
      rw [Int.le_ediv_iff_mul_le (by omega)]
      omega
    omega
  · rw [hone, Nat.one_mul]
    have : ((n : Int)).toNat = n := by omega
    rw [this]
    have h3 : n ≤ sizeLine := by rw [sizeLine_eq]; omega
    unfold Builtin.Str.tooLong
    simp
    exact h3
  · rw [if_neg (by omega)]
    by_cases c1 : ((n : Int) == 1 || (⟨#[c]⟩ : Str).length == 0) = true
    · rw [if_pos c1]
      have e : n = 1 := by
        rw [hone] at c1
        simp at c1
        omega
      subst e
      have e2 : repS ⟨#[c]⟩ 1 = ⟨#[c]⟩ := by
        show (⟨#[] ++ #[c]⟩ : Str) = _
        simp
      rw [e2] at q
      exact ⟨.str ⟨#[c]⟩, H, I, ⟨t, rfl⟩, q⟩
    · rw [if_neg c1]
      have e : ((n : Int)).toNat = n := by omega
      rw [e]
      refine ⟨?_, .str (repS ⟨#[c]⟩ n), H, I.tok _, ⟨_, rfl⟩, q⟩
      show (repS ⟨#[c]⟩ n).length ≤ sizeLine
      rw [repS_len, sizeLine_eq]
      omega
end
section
variable {ta tb : TE} {σ : St} {H : Hp} {c n : Nat}
theorem gv_mulS (h : Gv ta σ H (.str ⟨#[c]⟩)) (g : ∀ H', Same H H' → Gv tb σ H' (.int n)) (h1 : 1 ≤ n) (h2 : n ≤ 1000) : Gv (tOp rMulS ta tb) σ H (.str (repS ⟨#[c]⟩ n)) := fun R r => h _ fun H' s => g H' s _ fun H2 s2 => ⟨c, n, rfl, rfl, h1, h2, r H2 (s.trans s2)⟩
end
end L2

set_option maxHeartbeats 1000000
namespace L2
open PySem PySem.Spec PyProof.Rows
theorem kCatT {X : Cx} (K : PySem.W.Frag) (h : X.K = K := by rfl) : OpR X (binaryOp .Add) (rCatT K) := h ▸ op_catT
end L2
namespace K02
open PySem PySem.Spec PyProof.Rows L2
section
variable {P : Program} {w : World} {K : PySem.W.Frag} {mg : Str → Option Value} {base : Heap} {t : Ad}
def Gp (te : TE) (σ : L2.St) (H : Hp) (P : V → Hp → Prop) : Prop := ∀ R : VK, (∀ v H', Same H H' → P v H' → R v H') → te σ H R
def GaP (tt : TA) (σ : L2.St) (H : Hp) (P : V → Hp → Prop) (n : Nat) : Prop := ∀ R : List V → Hp → Prop, (∀ vs H', Same H H' → vs.length = n → (∀ v ∈ vs, P v H') → R vs H') → tt σ H R
def GlP (te : TE) (σ : L2.St) (H : Hp) (P : V → Hp → Prop) (n : Nat) : Prop := ∀ R : VK, (∀ p H' vs, H p = none → Same H H' → H' p = some (.lst vs) → vs.length = n → (∀ v ∈ vs, P v H') → R (.ref p) H') → te σ H R
def Stay (P : V → Hp → Prop) : Prop := ∀ v H H', Same H H' → P v H → P v H'
section
variable {te ta tb : TE} {tt : TA} {σ : L2.St} {H : Hp} {Pv : V → Hp → Prop} {n m : Nat}
theorem gp_gv {v : V} (h : Gv te σ H v) (g : ∀ H', Same H H' → Pv v H') : Gp te σ H Pv := fun R r => h _ fun H' s => r v H' s (g H' s)
theorem gap_nil : GaP tNil σ H Pv 0 := fun R r => r [] H (Same.refl _) rfl fun v hv => absurd hv (by simp)
theorem gap_cons (st : Stay Pv) (h : Gp te σ H Pv) (g : ∀ H', Same H H' → GaP tt σ H' Pv n) : GaP (tCons te tt) σ H Pv (n + 1) := fun R r => h _ fun v H1 s1 pv => g H1 s1 _ fun vs H2 s2 hl pvs => r (v :: vs) H2 (s1.trans s2) (by simp [hl]) fun u hu => by
  rcases List.mem_cons.mp hu with e | e
  · rw [e]; exact st _ _ _ s2 pv
  · exact pvs u e
theorem glp_lst (st : Stay Pv) (h : GaP tt σ H Pv n) (hz : n ≤ sizeLine) : GlP (tLst tt) σ H Pv n := fun R r => h _ fun vs H1 s1 hl pvs => ⟨by rw [hl]; exact hz, fun p hp => r p _ vs (s1.free hp) (s1.trans (Same.new hp _)) upd_same hl fun v hv => st _ _ _ (Same.new hp _) (pvs v hv)⟩
theorem glp_cat (st : Stay Pv) {a : Addr} {vs : List V} (h : Gv ta σ H (.ref a)) (hl : H a = some (.lst vs)) (hn : vs.length = n) (hv : ∀ v ∈ vs, Pv v H) (g : ∀ H', Same H H' → GlP tb σ H' Pv m) (hz : n + m ≤ sizeLine) : GlP (tOp rCat ta tb) σ H Pv (n + m) :=
  fun R r => h _ fun H1 s1 => g H1 s1 _ fun p H2 us hp s2 hpl hm pus => ⟨a, p, vs, us, rfl, rfl, s2 _ _ (s1 _ _ hl), hpl, by rw [hn, hm]; exact hz, fun q hq => r q _ (vs ++ us) ((s1.trans s2).free hq) ((s1.trans s2).trans (Same.new hq _)) upd_same (by simp [hn, hm]) fun v hv' => by
    rcases List.mem_append.mp hv' with e | e
    · exact st _ _ _ ((s1.trans s2).trans (Same.new hq _)) (hv v e)
    · exact st _ _ _ (Same.new hq _) (pus v e)⟩
theorem gp_ix {i : Int} (st : Stay Pv) (h : GlP ta σ H Pv n) (g : ∀ H', Same H H' → Gv tb σ H' (.int i)) (h0 : 0 ≤ i) (h1 : i < n) : Gp (tOp (rIxL K) ta tb) σ H Pv :=
  fun R r => h _ fun p H1 vs hp s1 hpl hn pvs => g H1 s1 _ fun H2 s2 => by
    obtain ⟨j, rfl⟩ := Int.eq_ofNat_of_zero_le h0
    have hj : j < vs.length := by omega
    exact ⟨p, vs, _, vs[j], rfl, rfl, SqL.of (s2 _ _ hpl), atI_nat (List.getElem?_eq_getElem hj), r _ H2 (s1.trans s2) (st _ _ _ s2 (pvs _ (List.getElem_mem hj)))⟩
theorem gp_ixV {i : Int} {a : Addr} {vs : List V} (st : Stay Pv) (h : Gv ta σ H (.ref a)) (hl : SqL K H a vs) (hn : vs.length = n) (pvs : ∀ v ∈ vs, Pv v H) (g : ∀ H', Same H H' → Gv tb σ H' (.int i)) (h0 : 0 ≤ i) (h1 : i < n) : Gp (tOp (rIxL K) ta tb) σ H Pv :=
  fun R r => h _ fun H1 s1 => g H1 s1 _ fun H2 s2 => by
    obtain ⟨j, rfl⟩ := Int.eq_ofNat_of_zero_le h0
    have hj : j < vs.length := by omega
    exact ⟨a, vs, _, vs[j], rfl, rfl, (s1.trans s2).seq hl, atI_nat (List.getElem?_eq_getElem hj), r _ H2 (s1.trans s2) (st _ _ _ (s1.trans s2) (pvs _ (List.getElem_mem hj)))⟩
end
def TilesAt (K : PySem.W.Frag) (H : Hp) (L : Addr) (ts : List (List Int)) : Prop := ∃ ps : List (Addr × List Int), H L = some (.lst (ps.map rv)) ∧ (∀ p ∈ ps, SqT K H p.1 (p.2.map V.int)) ∧ ps.map (·.2) = ts
theorem TilesAt.same {H H' : Hp} {L : Addr} {ts : List (List Int)} (h : TilesAt K H L ts) (s : Same H H') : TilesAt K H' L ts := by
  obtain ⟨ps, h1, h2, h3⟩ := h
  exact ⟨ps, s _ _ h1, fun p hp => s.tup (h2 p hp), h3⟩
theorem TilesAt.rep {H : Hp} {L : Addr} {ts : List (List Int)} (h : TilesAt K H L ts) : Rep K H (.lst (ts.map tupI)) (.ref L) := by
  obtain ⟨ps, h1, h2, rfl⟩ := h
  unfold Rep
  exact ⟨L, _, rfl, SqL.of h1, tups_reps ps h2⟩
def SysT (K : PySem.W.Frag) (H : Hp) (a : Addr) (x : Str) (ts : List (List Int)) : Prop := ∃ T, SqT K H a [.str x, .ref T] ∧ TilesAt K H T ts
theorem SysT.same {H H' : Hp} {a : Addr} {x : Str} {ts : List (List Int)} (h : SysT K H a x ts) (s : Same H H') : SysT K H' a x ts := by
  obtain ⟨T, h1, h2⟩ := h
  exact ⟨T, s.tup h1, h2.same s⟩
theorem SysT.at_ {H : Hp} {a : Addr} {x : Str} {ts : List (List Int)} (h : SysT K H a x ts) : SysAt K H a x ts := by
  obtain ⟨T, h1, h2⟩ := h
  exact ⟨T, h1, h2.rep⟩
def Pt (K : PySem.W.Frag) (v : V) (H : Hp) : Prop := ∃ (c : Addr) (tl : List Int), v = .ref c ∧ SqT K H c (tl.map V.int) ∧ tl.length ≤ 30
def Ps (K : PySem.W.Frag) (v : V) (H : Hp) : Prop := ∃ b x ts, v = .ref b ∧ SysAt K H b x ts ∧ Mild x ts
theorem pt_stay : Stay (Pt K) := fun v H H' s h => by
  obtain ⟨c, tl, e, q, z⟩ := h
  exact ⟨c, tl, e, s.tup q, z⟩
theorem ps_stay : Stay (Ps K) := fun v H H' s h => by
  obtain ⟨b, x, ts, e, q, z⟩ := h
  exact ⟨b, x, ts, e, q.same s, z⟩
section
variable {te ta tb : TE} {tt : TA} {σ : L2.St} {H : Hp} {Pv : V → Hp → Prop} {n m : Nat}
/-- (letters, tiles), the tiles a new list -/
theorem gp_sysN {x : Str} {ps : List (Addr × List Int)} (hl : Gv ta σ H (.str x)) (ht : ∀ H', Same H H' → Gn tb σ H' (ps.map rv)) (hq : ∀ p ∈ ps, SqT K H p.1 (p.2.map V.int)) (hM : Mild x (ps.map (·.2))) : Gp (tTup (tCons ta (tCons tb tNil))) σ H (Ps K) :=
  fun R r => hl _ fun H1 s1 => ht H1 s1 _ fun L H2 hL s2 hL2 => ⟨(by show 2 ≤ sizeLine; decide), fun q hq' => r _ _ (s1.trans (s2.trans (Same.new hq' _))) ⟨q, x, _, rfl, ⟨L, SqT.of upd_same, (show TilesAt K H2 L _ from ⟨ps, hL2, fun p hp => (s1.trans s2).tup (hq p hp), rfl⟩).rep.same (Same.new hq' _)⟩, hM⟩⟩
/-- (letters, tiles), the tiles there already -/
theorem gp_sysV {x : Str} {L : Addr} {ts : List (List Int)} (hl : Gv ta σ H (.str x)) (ht : ∀ H', Same H H' → Gv tb σ H' (.ref L)) (hq : Rep K H (.lst (ts.map tupI)) (.ref L)) (hM : Mild x ts) : Gp (tTup (tCons ta (tCons tb tNil))) σ H (Ps K) :=
  fun R r => hl _ fun H1 s1 => ht H1 s1 _ fun H2 s2 => ⟨(by show 2 ≤ sizeLine; decide), fun q hq' => r _ _ (s1.trans (s2.trans (Same.new hq' _))) ⟨q, x, ts, rfl, ⟨L, SqT.of upd_same, hq.same (s1.trans (s2.trans (Same.new hq' _)))⟩, hM⟩⟩
theorem gn_rev {a : Addr} {xs : List V} (h : Gv te σ H (.ref a)) (hq : SqL K H a xs) : Gn (tRev K te) σ H xs.reverse := fun R r => h _ fun H1 s1 => .inr ⟨a, xs, rfl, s1.seq hq, fun p hp => r p _ (s1.free hp) (s1.trans (Same.new hp _)) upd_same⟩
/-- a new tuple, its contents known -/
def Gu (te : TE) (σ : L2.St) (H : Hp) (xs : List V) : Prop := ∀ R : VK, (∀ p H', Same H H' → H' p = some (.tup xs) → R (.ref p) H') → te σ H R
theorem gu_tup {xs : List V} (h : Ga tt σ H xs) (hz : xs.length ≤ sizeLine) : Gu (tTup tt) σ H xs := fun R r => h _ fun H' s => ⟨hz, fun p hp => r p _ (s.trans (Same.new hp _)) upd_same⟩
theorem gu_slHi {a : Addr} {xs : List V} {i : Int} (ha : Gv ta σ H (.ref a)) (hq : SqT K H a xs) (hb : ∀ H', Same H H' → Gv tb σ H' (.int i)) (hw : ¬ (HT.sIx xs.length 0 none = 0 ∧ HT.sIx xs.length xs.length (some i) = xs.length)) : Gu (tSl (rSlT K) ta tNoPart (tPart tb)) σ H (cutV xs none (some i)) :=
  fun R r => ha _ fun H1 s1 => hb H1 s1 _ fun H2 s2 => ⟨i, rfl, a, xs, rfl, (s1.trans s2).tup hq, hw, fun q hq' => r q _ ((s1.trans s2).trans (Same.new hq' _)) upd_same⟩
theorem gu_slLo {a : Addr} {xs : List V} {i : Int} (ha : Gv ta σ H (.ref a)) (hq : SqT K H a xs) (hb : ∀ H', Same H H' → Gv tb σ H' (.int i)) (hw : ¬ (HT.sIx xs.length 0 (some i) = 0 ∧ HT.sIx xs.length xs.length none = xs.length)) : Gu (tSl (rSlT K) ta (tPart tb) tNoPart) σ H (cutV xs (some i) none) :=
  fun R r => ha _ fun H1 s1 => hb H1 s1 _ fun H2 s2 => ⟨i, rfl, a, xs, rfl, (s1.trans s2).tup hq, hw, fun q hq' => r q _ ((s1.trans s2).trans (Same.new hq' _)) upd_same⟩
theorem gu_catV {a : Addr} {xs ys : List V} (ha : Gv ta σ H (.ref a)) (hq : SqT K H a xs) (hb : ∀ H', Same H H' → Gu tb σ H' ys) (hx : xs ≠ []) (hy : ys ≠ []) (hz : xs.length + ys.length ≤ sizeLine) : Gu (tOp (rCatT K) ta tb) σ H (xs ++ ys) :=
  fun R r => ha _ fun H1 s1 => hb H1 s1 _ fun p H2 s2 hp => ⟨a, p, xs, ys, rfl, rfl, (s1.trans s2).tup hq, SqT.of hp, hx, hz, fun e => absurd e hy, fun _ q hq' => r q _ ((s1.trans s2).trans (Same.new hq' _)) upd_same⟩
theorem gu_cat {xs ys : List V} (ha : Gu ta σ H xs) (hb : ∀ H', Same H H' → Gu tb σ H' ys) (hx : xs ≠ []) (hy : ys ≠ []) (hz : xs.length + ys.length ≤ sizeLine) : Gu (tOp (rCatT K) ta tb) σ H (xs ++ ys) :=
  fun R r => ha _ fun a H1 s1 hl => hb H1 s1 _ fun p H2 s2 hp => ⟨a, p, xs, ys, rfl, rfl, SqT.of (s2 _ _ hl), SqT.of hp, hx, hz, fun e => absurd e hy, fun _ q hq' => r q _ ((s1.trans s2).trans (Same.new hq' _)) upd_same⟩
theorem gp_gu {xs : List V} {tl : List Int} (h : Gu te σ H xs) (e : xs = tl.map V.int) (hl : tl.length ≤ 30) : Gp te σ H (Pt K) := fun R r => h _ fun p H' s hp => r _ H' s ⟨p, tl, rfl, SqT.of (by rw [hp, e]), hl⟩
end
theorem cut_map {α : Type} (f : α → V) (ps : List α) (lo hi : Option Int) : ∃ qs : List α, cutV (ps.map f) lo hi = qs.map f ∧ (∀ q ∈ qs, q ∈ ps) ∧ qs.length ≤ ps.length := by
  refine ⟨(ps.drop (HT.sIx ps.length 0 lo)).take (HT.sIx ps.length ps.length hi - HT.sIx ps.length 0 lo), ?_, fun q hq => List.mem_of_mem_drop (List.mem_of_mem_take hq), ?_⟩
  · unfold cutV
    rw [List.length_map, List.map_take, List.map_drop]
  · rw [List.length_take, List.length_drop]; omega
theorem take_map {α : Type} (f : α → V) (ps : List α) (k : Nat) : cutV (ps.map f) none (some (k : Int)) = (ps.take k).map f := by
  unfold cutV
  rw [HT.sIx_none, HT.sIx_nat, List.length_map, Nat.sub_zero, List.drop_zero, ← List.map_take]
  congr 1
  by_cases h : k ≤ ps.length
  · rw [Nat.min_eq_left h]
  · rw [Nat.min_eq_right (by omega), List.take_of_length_le (Nat.le_refl _), List.take_of_length_le (by omega)]
theorem drop_map {α : Type} (f : α → V) (ps : List α) (k : Nat) : cutV (ps.map f) (some (k : Int)) none = (ps.drop k).map f := by
  rw [cutV_drop, ← List.map_drop]
def sp_spoilt (K : PySem.W.Frag) : Sp := fun vs H Q _ => ∃ (a : Addr) (n : Int) (x : Str) (ts : List (List Int)), vs = [.ref a, .int n] ∧ SysT K H a x ts ∧ x.length ≤ 3 ∧ ts ≠ [] ∧ ts.length ≤ 100 ∧ (∀ t ∈ ts, t.length = 4) ∧ ∀ v H', Same H H' → Ps K v H' → Q v H'
theorem sc__law_spoilt : FnScope ["_law_system_here", "_law_number", "_law_letters", "_law_tiles_here", "_law_at", "_law_tile", "_law_many", "_law_bad", "_law_some"] ["_law_system_here", "_law_number"] (defScope s__law_spoilt) := ⟨rfl, rfl, rfl, by decide +kernel, rfl, by decide +kernel, by decide +kernel⟩
theorem ok__law_spoilt (T : Txt K mg t) : FnOk P w K mg base CX0 1 t.f__law_spoilt t.d__law_spoilt ["_law_system_here", "_law_number"] (sp_spoilt K) := by
  refine T._law_spoilt.fn.ok sc__law_spoilt (fun vs H Q E h => ?_) (fun cdv A outer s H vs Q E hr h => ?_)
  · obtain ⟨a, n, x, ts, rfl, _⟩ := h
    rfl
  obtain ⟨a, n, x, ts, rfl, hS, hx3, hne, hfew, h4, kk⟩ := h
  obtain ⟨L, hT, ps, hL, hps, rfl⟩ := id hS
  rw [List.length_map] at hfew
  have hpl : 0 < ps.length := by
    cases ps with
    | nil => exact absurd rfl hne
    | cons p r => simp
  refine ⟨_, (pss_cons (ps_asg (pv 0) (kgTup K (n := 2) (pgs_cons (pg_name (i := 2) sc__law_spoilt.nd rfl (by first | exact Or.inl rfl | exact Or.inr rfl)) (pgs_cons (pg_name (i := 3) sc__law_spoilt.nd rfl (by first | exact Or.inl rfl | exact Or.inr rfl)) pgs_nil)))) (pss_cons (ps_set (i := 4) sc__law_spoilt.nd rfl (by first | exact Or.inl rfl | exact Or.inr rfl) (pe_op op_mod (pe_op op_fdiv (pv 1) pe_int) (pe_callB (kLen K) (by rfl) T.n_len boot_len (pa_cons (pv 3) pa_nil)))) (pss_cons (ps_set (i := 5) sc__law_spoilt.nd rfl (by first | exact Or.inl rfl | exact Or.inr rfl) (pe_ix (kIxL K) (pv 3) (pv 4) (fun _ _ => rfl))) (pss_cons (ps_set (i := 6) sc__law_spoilt.nd rfl (by first | exact Or.inl rfl | exact Or.inr rfl) (pe_callB (kLen K) (by rfl) T.n_len boot_len (pa_cons (pv 2) pa_nil))) (pss_cons (ps_set (i := 7) sc__law_spoilt.nd rfl (by first | exact Or.inl rfl | exact Or.inr rfl) (pe_ix (kIxL K) (pe_lst (pa_cons (pe_slice (kSlT K) (pv 5) po_none (po_some pe_int)) (pa_cons (pe_op (kCatT K) (pv 5) (pe_tup (pa_cons pe_int pa_nil))) (pa_cons (pe_op (kCatT K) (pe_tup (pa_cons (pv 6) pa_nil)) (pe_slice (kSlT K) (pv 5) (po_some pe_int) po_none)) (pa_cons (pe_op (kCatT K) (pe_slice (kSlT K) (pv 5) po_none (po_some pe_int)) (pe_tup (pa_cons (pe_un un_neg pe_int) pa_nil))) pa_nil))))) (pe_op op_mod (pe_op op_fdiv (pv 1) pe_int) pe_int) (fun _ _ => rfl))) (pss_cons (ps_set (i := 8) sc__law_spoilt.nd rfl (by first | exact Or.inl rfl | exact Or.inr rfl) (pe_lst (pa_cons (pe_tup (pa_cons (pe_op op_add_str (pv 2) pe_str) (pa_cons (pv 3) pa_nil))) (pa_cons (pe_tup (pa_cons (pv 2) (pa_cons (pe_op op_cat (pe_op op_cat (pe_slice (kSlL K) (pv 3) po_none (po_some (pv 4))) (pe_lst (pa_cons (pv 7) pa_nil))) (pe_slice (kSlL K) (pv 3) (po_some (pe_op op_add (pv 4) pe_int)) po_none)) pa_nil))) (pa_cons (pe_tup (pa_cons (pv 2) (pa_cons (kRev K (pv 3)) pa_nil))) pa_nil))))) (pss_cons (ps_set (i := 8) sc__law_spoilt.nd rfl (by first | exact Or.inl rfl | exact Or.inr rfl) (pe_op op_cat (pv 8) (pe_lst (pa_cons (pe_tup (pa_cons (pv 2) (pa_cons (pe_op op_cat (pe_op op_cat (pe_slice (kSlL K) (pv 3) po_none (po_some (pv 4))) (pe_lst (pa_cons (pv 5) pa_nil))) (pe_slice (kSlL K) (pv 3) (po_some (pv 4)) po_none)) pa_nil))) (pa_cons (pe_tup (pa_cons (pe_op op_mulS pe_str (pe_op op_add pe_int (pe_op op_mod (pe_op op_fdiv (pv 1) pe_int) pe_int))) (pa_cons (pv 3) pa_nil))) (pa_cons (pv 0) pa_nil)))))) (pss_one (ps_ret (pe_ix (kIxL K) (pv 8) (pe_op op_mod (pe_op op_mod (pv 1) pe_int) pe_int) (fun _ _ => rfl))))))))))), ?_⟩
  refine rq_unpack2 (gv_var (by rfl)) hT fun H1 s1 => ?_
  obtain ⟨at_, hat⟩ : ∃ at_ : Nat, n / 8 % (ps.length : Int) = (at_ : Int) := ⟨(n / 8 % (ps.length : Int)).toNat, by
    have := Int.emod_nonneg (n / 8) (show (ps.length : Int) ≠ 0 by omega)
    omega⟩
  have hlt : at_ < ps.length := by
    have := Int.emod_lt_of_pos (n / 8) (show (0 : Int) < ps.length by omega)
    omega
  refine rq_set (gv_eq (gv_iic (gv_iic (gv_var (by rfl)) (fun _ _ => gv_c) ⟨by decide, by decide⟩) (fun H2 s2 => gv_lenL (K := K) (ga_1 (gv_var (by rfl))) (SqL.of ((s1.trans s2) _ _ hL))) (by show (0 : Int) < _; rw [List.length_map]; omega)) (y := .int (at_ : Int)) (by rw [List.length_map]; exact congrArg V.int hat)) fun H2 s2 => ?_
  have s02 := s1.trans s2
  refine rq_set (gv_ixL (K := K) (v := .ref ps[at_].1) (gv_var (by rfl)) (fun _ _ => gv_var (by rfl)) (SqL.of (s02 _ _ hL)) (atI_nat (by rw [List.getElem?_map, List.getElem?_eq_getElem hlt]; rfl))) fun H3 s3 => ?_
  have s03 := s02.trans s3
  have hpm : ps[at_] ∈ ps := List.getElem_mem hlt
  have hq3 : SqT K H3 ps[at_].1 (ps[at_].2.map V.int) := s03.tup (hps _ hpm)
  have h44 : ps[at_].2.length = 4 := h4 _ (List.mem_map.mpr ⟨_, hpm, rfl⟩)
  refine rq_set (gv_lenS (K := K) (ga_1 (gv_var (by rfl))) (small (by omega))) fun H4 s4 => ?_
  have s04 := s03.trans s4
  generalize hpa : ps[at_] = pa at *
  obtain ⟨c0, tl⟩ := pa
  dsimp only at *
  obtain ⟨f1, f2, f3, f4, rfl⟩ : ∃ f1 f2 f3 f4 : Int, tl = [f1, f2, f3, f4] := by
    match tl, h44 with
    | [f1, f2, f3, f4], _ => exact ⟨f1, f2, f3, f4, rfl⟩
  have hi4 : 0 ≤ n / 64 % 4 ∧ n / 64 % 4 < 4 := ⟨Int.emod_nonneg _ (by decide), Int.emod_lt_of_pos _ (by decide)⟩
  refine rq_set' (gp_ix (K := K) (n := 4) (i := n / 64 % 4) (pt_stay (K := K)) (glp_lst pt_stay (gap_cons pt_stay (gp_gu (K := K) (tl := [f1, f2, f3]) (gu_slHi (K := K) (i := 3) (gv_var (by rfl)) (s4.tup hq3) (fun _ _ => gv_c) (by show ¬ (HT.sIx 4 0 none = 0 ∧ HT.sIx 4 4 (some 3) = 4); decide)) (by rfl) (by simp)) fun H5 s5 =>
      gap_cons pt_stay (gp_gu (K := K) (tl := [f1, f2, f3, f4, 0]) (gu_catV (K := K) (ys := [.int 0]) (gv_var (by rfl)) ((s4.trans s5).tup hq3) (fun _ _ => gu_tup (ga_1 gv_c) (by show 1 ≤ sizeLine; decide)) (by simp) (by simp) (by show 5 ≤ sizeLine; decide)) (by rfl) (by simp)) fun H6 s6 =>
      gap_cons pt_stay (gp_gu (K := K) (tl := [(x.length : Int), f2, f3, f4]) (gu_cat (K := K) (xs := [.int x.length]) (gu_tup (ga_1 (gv_var (by rfl))) (by show 1 ≤ sizeLine; decide)) (fun H7 s7 => gu_slLo (K := K) (i := 1) (gv_var (by rfl)) ((s4.trans (s5.trans (s6.trans s7))).tup hq3) (fun _ _ => gv_c) (by show ¬ (HT.sIx 4 0 (some 1) = 0 ∧ HT.sIx 4 4 none = 4); decide)) (by simp) (by show ([.int f2, .int f3, .int f4] : List V) ≠ []; simp) (by show 4 ≤ sizeLine; decide)) (by rfl) (by simp)) fun H7 s7 =>
      gap_cons pt_stay (gp_gu (K := K) (tl := [f1, f2, f3, -2]) (gu_cat (K := K) (ys := [.int (-2)]) (gu_slHi (K := K) (i := 3) (gv_var (by rfl)) ((s4.trans (s5.trans (s6.trans s7))).tup hq3) (fun _ _ => gv_c) (by show ¬ (HT.sIx 4 0 none = 0 ∧ HT.sIx 4 4 (some 3) = 4); decide)) (fun _ _ => gu_tup (ga_1 (gv_neg gv_c)) (by show 1 ≤ sizeLine; decide)) (by show ([.int f1, .int f2, .int f3] : List V) ≠ []; simp) (by simp) (by show 4 ≤ sizeLine; decide)) (by rfl) (by simp)) fun H8 s8 => gap_nil) (by show 4 ≤ sizeLine; decide))
    (fun H5 s5 => gv_iic (gv_iic (gv_var (by rfl)) (fun _ _ => gv_c) ⟨by decide, by decide⟩) (fun _ _ => gv_c) (by decide)) hi4.1 hi4.2 _ fun v H5 s5 pv => ?_)
  obtain ⟨cb, tb, rfl, hcb, hcl⟩ := pv
  have s05 := s04.trans s5
  have mild : ∀ (y : Str) (qs : List (Addr × List Int)), y.length ≤ 60 → qs.length ≤ 900 → (∀ q ∈ qs, q.2.length ≤ 30) → Mild y (qs.map (·.2)) := fun y qs h1 h2 h3 => ⟨h1, by rw [List.length_map]; exact h2, fun t ht => by
    obtain ⟨q, hq, rfl⟩ := List.mem_map.mp ht
    exact h3 q hq⟩
  have l30 : ∀ p ∈ ps, p.2.length ≤ 30 := fun p hp => by rw [h4 _ (List.mem_map.mpr ⟨p, hp, rfl⟩)]; decide
  have hL5 := s05 _ _ hL
  have hps5 : ∀ p ∈ ps, SqT K H5 p.1 (p.2.map V.int) := fun p hp => s05.tup (hps p hp)
  refine rq_set' (glp_lst (n := 3) (ps_stay (K := K)) (gap_cons ps_stay (gp_sysV (K := K) (x := x ++ "e") (ts := ps.map (·.2)) (gv_addS (gv_var (by rfl)) (fun _ _ => gv_c) (small (by show x.length + 1 ≤ 1000; omega))) (fun _ _ => gv_var (by rfl)) ((show TilesAt K H5 L _ from ⟨ps, hL5, hps5, rfl⟩).rep) (mild _ _ ?_ (by omega) l30)) fun H6 s6 =>
      gap_cons ps_stay (gp_sysN (K := K) (x := x) (ps := ps.take at_ ++ [(cb, tb)] ++ ps.drop (at_ + 1)) (gv_var (by rfl)) (fun H7 s7 => ?_) (fun p hp => ?_) (mild _ _ (by omega) ?_ fun p hp => ?_)) fun H7 s7 =>
      gap_cons ps_stay (gp_sysN (K := K) (x := x) (ps := ps.reverse) (gv_var (by rfl)) (fun H8 s8 => gn_eq (gn_rev (K := K) (gv_var (by rfl)) (SqL.of ((s6.trans (s7.trans s8)) _ _ hL5))) (by rw [List.map_reverse])) (fun p hp => (s6.trans s7).tup (hps5 p (List.mem_reverse.mp hp))) (mild _ _ (by omega) (by rw [List.length_reverse]; omega) fun p hp => l30 p (List.mem_reverse.mp hp))) fun _ _ => gap_nil) (by show 3 ≤ sizeLine; decide) _ fun S1 H6 vs1 hS1 s6 hS1l hn1 pvs1 => ?_)
  · have e : (x ++ "e" : Str).length = x.length + 1 := strLen_append x "e"
    rw [e]; omega
  · refine gn_eq (gn_catN (xs := (ps.take at_).map rv ++ [.ref cb]) (ys := (ps.drop (at_ + 1)).map rv) (gn_catN (gn_eq (gn_slHi (K := K) (i := (at_ : Int)) (gv_var (by rfl)) (SqL.of ((s6.trans s7) _ _ hL5)) (fun _ _ => gv_var (by rfl))) (take_map rv ps at_)) (fun H8 s8 => gn_lst (ga_1 (gv_var (by rfl))) (by show 1 ≤ sizeLine; decide)) (small (by simp; omega))) (fun H8 s8 => gn_eq (gn_slLo (K := K) (i := ((at_ + 1 : Nat) : Int)) (gv_var (by rfl)) (SqL.of ((s6.trans (s7.trans s8)) _ _ hL5)) (fun _ _ => gv_eq (gv_ii (gv_var (by rfl)) fun _ _ => gv_c) rfl)) (drop_map rv ps (at_ + 1))) (small (by simp; omega))) (by simp)
  · rcases List.mem_append.mp hp with z | z
    · rcases List.mem_append.mp z with z | z
      · exact s6.tup (hps5 p (List.mem_of_mem_take z))
      · rw [List.mem_singleton.mp z]; exact s6.tup hcb
    · exact s6.tup (hps5 p (List.mem_of_mem_drop z))
  · simp; omega
  · rcases List.mem_append.mp hp with z | z
    · rcases List.mem_append.mp z with z | z
      · exact l30 p (List.mem_of_mem_take z)
      · rw [List.mem_singleton.mp z]; exact hcl
    · exact l30 p (List.mem_of_mem_drop z)
  have s06 := s05.trans s6
  have hL6 := s06 _ _ hL
  have hps6 : ∀ p ∈ ps, SqT K H6 p.1 (p.2.map V.int) := fun p hp => s06.tup (hps p hp)
  have ha6 := s06.tup hT
  have hn2 : 0 ≤ n / 64 % 2 ∧ n / 64 % 2 < 2 := ⟨Int.emod_nonneg _ (by decide), Int.emod_lt_of_pos _ (by decide)⟩
  obtain ⟨m2, hm2⟩ : ∃ m2 : Nat, 16 + n / 64 % 2 = (m2 : Int) := ⟨(16 + n / 64 % 2).toNat, by omega⟩
  refine rq_set' (glp_cat (n := 3) (m := 3) (ps_stay (K := K)) (gv_var (by rfl)) hS1l hn1 pvs1 (fun H7 s7 => glp_lst ps_stay (gap_cons ps_stay (gp_sysN (K := K) (x := x) (ps := ps.take at_ ++ [(c0, [f1, f2, f3, f4])] ++ ps.drop at_) (gv_var (by rfl)) (fun H8 s8 => ?_) (fun p hp => ?_) (mild _ _ (by omega) ?_ fun p hp => ?_)) fun H8 s8 =>
      gap_cons ps_stay (gp_sysV (K := K) (x := repS ⟨#[97]⟩ m2) (ts := ps.map (·.2)) (gv_mulS gv_c (fun _ _ => gv_eq (gv_ii gv_c fun _ _ => gv_iic (gv_iic (gv_var (by rfl)) (fun _ _ => gv_c) ⟨by decide, by decide⟩) (fun _ _ => gv_c) (by decide)) (congrArg V.int hm2)) (by omega) (by omega)) (fun _ _ => gv_var (by rfl)) ((show TilesAt K H6 L _ from ⟨ps, hL6, hps6, rfl⟩).rep.same (s7.trans s8)) (mild _ _ (by rw [repS_len]; omega) (by omega) l30)) fun H9 s9 =>
      gap_cons ps_stay (gp_gv (gv_var (by rfl)) fun HA sA => ⟨a, x, _, rfl, (hS.at_).same (s06.trans (s7.trans (s8.trans (s9.trans sA)))), mild _ _ (by omega) (by omega) l30⟩) fun _ _ => gap_nil) (by show 3 ≤ sizeLine; decide)) (by show 6 ≤ sizeLine; decide) _ fun S2 H7 vs2 hS2 s7 hS2l hn2 pvs2 => ?_)
  · refine gn_eq (gn_catN (xs := (ps.take at_).map rv ++ [.ref c0]) (ys := (ps.drop at_).map rv) (gn_catN (gn_eq (gn_slHi (K := K) (i := (at_ : Int)) (gv_var (by rfl)) (SqL.of ((s7.trans s8) _ _ hL6)) (fun _ _ => gv_var (by rfl))) (take_map rv ps at_)) (fun H9 s9 => gn_lst (ga_1 (gv_var (by rfl))) (by show 1 ≤ sizeLine; decide)) (small (by simp; omega))) (fun H9 s9 => gn_eq (gn_slLo (K := K) (i := (at_ : Int)) (gv_var (by rfl)) (SqL.of ((s7.trans (s8.trans s9)) _ _ hL6)) (fun _ _ => gv_var (by rfl))) (drop_map rv ps at_)) (small (by simp; omega))) (by simp)
  · rcases List.mem_append.mp hp with z | z
    · rcases List.mem_append.mp z with z | z
      · exact s7.tup (hps6 p (List.mem_of_mem_take z))
      · rw [List.mem_singleton.mp z]; exact (s4.trans (s5.trans (s6.trans s7))).tup hq3
    · exact s7.tup (hps6 p (List.mem_of_mem_drop z))
  · simp; omega
  · rcases List.mem_append.mp hp with z | z
    · rcases List.mem_append.mp z with z | z
      · exact l30 p (List.mem_of_mem_take z)
      · rw [List.mem_singleton.mp z]; show 4 ≤ 30; decide
    · exact l30 p (List.mem_of_mem_drop z)
  have hi6 : 0 ≤ n % 8 % 6 ∧ n % 8 % 6 < 6 := ⟨Int.emod_nonneg _ (by decide), Int.emod_lt_of_pos _ (by decide)⟩
  exact rs_ret' (gp_ixV (K := K) (n := 6) (ps_stay (K := K)) (gv_var (by rfl)) (SqL.of hS2l) hn2 pvs2 (fun _ _ => gv_iic (gv_iic (gv_var (by rfl)) (fun _ _ => gv_c) (by decide)) (fun _ _ => gv_c) (by decide)) hi6.1 hi6.2 _ fun v H8 s8 pv => kk v H8 (s06.trans (s7.trans s8)) pv)
end
end K02

namespace K02
open PySem PySem.Spec PyProof.Rows L2
theorem rise_of : ∀ {ts : List (List Int)}, ts.Pairwise (fun a b => HT.lexLt a b = true) → riseB ts = true
  | [], _ => rfl
  | [a], _ => rfl
  | a :: b :: r, h => by
    unfold riseB
    rw [List.pairwise_cons] at h
    rw [h.1 b List.mem_cons_self, rise_of h.2]
    rfl
theorem tile_of {n : Nat} {t : List Int} (h : TileOk n t) : tileB n t = true := by
  unfold tileB
  rw [decide_eq_true h.1, Bool.true_and, List.all_eq_true]
  intro f hf
  have := h.2 f hf
  rw [decide_eq_true this.1, decide_eq_true this.2]
  rfl
/-- a list of tiles few of which are no corners holds few different ones -/
theorem few_of {zs l : List (List Int)} {B : Nat} (hz : zs.countP nonc ≤ B) (nd : l.Nodup) (hs : ∀ k ∈ l, k ∈ zs) : l.length ≤ B + 12 ∧ l.countP nonc ≤ B := by
  have h1 : (l.filter nonc).length ≤ (zs.filter nonc).length := TB.nodup_sub (List.Pairwise.filter _ nd) fun y hy => by
    obtain ⟨a, b⟩ := List.mem_filter.mp hy
    exact List.mem_filter.mpr ⟨hs y a, b⟩
  have h2 : (l.filter fun t => !nonc t).length ≤ corners.length := TB.nodup_sub (List.Pairwise.filter _ nd) fun y hy => by
    obtain ⟨_, b⟩ := List.mem_filter.mp hy
    unfold nonc at b
    simpa using b
  have h3 : corners.length = 12 := rfl
  rw [List.countP_eq_length_filter] at hz ⊢
  have h4 : l.length = (l.filter nonc).length + (l.filter fun t => !nonc t).length := by
    have := List.length_eq_countP_add_countP nonc (l := l)
    rw [List.countP_eq_length_filter, List.countP_eq_length_filter] at this
    have e : (fun a => decide ¬nonc a = true) = fun t => !nonc t := by
      funext t
      cases nonc t <;> rfl
    rw [e] at this
    exact this
  omega
/-- the law's own look at rows is the program's -/
theorem due_fit {x : Str} {p : List Str} {rows : List (List Int)} {wd : Nat} (hw : ∀ r ∈ p, r.length = wd) :
    (decide (rows.map List.length = p.map Str.length) && (List.range p.length).all fun y => (List.range wd).all fun i => standB x ((rows.getD y []).getD i 0) (sgn (p.getD y ⟨#[]⟩) i)) = fitB x p rows := by
  have pw : ∀ i, i < p.length → (p.getD i ⟨#[]⟩).cps.size = wd := fun i hi => hw _ (getD_mem hi)
  rw [Bool.eq_iff_iff]
  unfold fitB
  simp only [Bool.and_eq_true, decide_eq_true_eq, List.all_eq_true, List.mem_range]
  constructor
  · rintro ⟨h1, h2⟩
    have hl : rows.length = p.length := by
      have := congrArg List.length h1
      simpa using this
    refine ⟨hl, fun i hi => ?_⟩
    have hr : (rows.getD i []).length = wd := by
      have e := congrArg (fun l => l[i]?) h1
      simp only [List.getElem?_map] at e
      rw [List.getElem?_eq_getElem (by omega), List.getElem?_eq_getElem hi] at e
      have e' : rows[i].length = p[i].length := by simpa using e
      rw [List.getD_eq_getElem?_getD, List.getElem?_eq_getElem (by omega)]
      show rows[i].length = wd
      rw [e']
      exact hw _ (List.getElem_mem hi)
    unfold rowFitB
    simp only [Bool.and_eq_true, decide_eq_true_eq, List.all_eq_true, List.mem_range]
    refine ⟨by rw [hr, pw i hi], fun j hj => h2 i hi j (by omega)⟩
  · rintro ⟨hl, h2⟩
    have hr : ∀ i, i < p.length → (rows.getD i []).length = wd ∧ ∀ j, j < wd → standB x ((rows.getD i []).getD j 0) (sgn (p.getD i ⟨#[]⟩) j) = true := fun i hi => by
      have := h2 i hi
      unfold rowFitB at this
      simp only [Bool.and_eq_true, decide_eq_true_eq, List.all_eq_true, List.mem_range] at this
      have e : (rows.getD i []).length = wd := by rw [this.1, pw i hi]
      exact ⟨e, fun j hj => this.2 j (by omega)⟩
    refine ⟨List.ext_getElem (by simp [hl]) fun i h3 h4 => ?_, fun i hi j hj => (hr i hi).2 j hj⟩
    have h5 : i < rows.length := by simpa using h3
    have h6 : i < p.length := by omega
    rw [List.getElem_map, List.getElem_map]
    have := (hr i h6).1
    rw [List.getD_eq_getElem?_getD, List.getElem?_eq_getElem h5] at this
    have e : rows[i].length = wd := this
    rw [e, hw _ (List.getElem_mem h6)]
end K02

set_option maxHeartbeats 2000000
namespace K02
open PySem PySem.Spec PyProof.Rows L2
section
variable {P : Program} {w : World} {K : PySem.W.Frag} {mg : Str → Option Value} {base : Heap} {t : Ad}
theorem set_same {σ : L2.St} {n : Nat} {v : V} (h : σ[n]? = some (some v)) : σ.set n (some v) = σ := by
  have hn : n < σ.length := (List.getElem?_eq_some_iff.mp h).1
  have e : σ[n] = some v := (List.getElem?_eq_some_iff.mp h).2
  rw [← e]
  exact List.set_getElem_self hn
theorem rq_ifSetH {tt : TT} {te : TE} {us : TS} {D : Ends} {σ : L2.St} {H : Hp} {n : Nat} {b : Bool} {v0 : V} (R : V → Hp → Prop) (h : Gt tt σ H b) (h0 : σ[n]? = some (some v0)) (hv : ∀ H', Same H H' → R v0 H')
    (k1 : b = true → ∀ H', Same H H' → ∀ Q : VK, (∀ v H2, R v H2 → Same H' H2 → Q v H2) → te σ H' Q) (k : ∀ v H', R v H' → Same H H' → us D (σ.set n (some v)) H') : tSeq (tIfS tt (tAsg te (gName n)) tNext) us D σ H := by
  refine rq_if h (fun c H1 s1 => ?_) fun c H1 s1 => ?_
  · exact k1 c H1 s1 _ fun v H2 hv2 s2 => k v H2 hv2 (s1.trans s2)
  · have := k v0 H1 (hv H1 s1) s1
    rwa [set_same h0] at this

/-- rows of one's own, made behind H0 -/
structure RowsT (H0 H : Hp) (F : Addr) (rs : List (Addr × List Int)) : Prop where
  at_ : H F = some (.lst (rs.map rv))
  newF : H0 F = none
  rows : ∀ p ∈ rs, H0 p.1 = none ∧ p.1 ≠ F ∧ H p.1 = some (.lst (p.2.map V.int))
  nd : (rs.map (·.1)).Nodup
theorem RowsT.same {H0 H H' : Hp} {F : Addr} {rs : List (Addr × List Int)} (h : RowsT H0 H F rs) (s : Same H H') : RowsT H0 H' F rs :=
  ⟨s _ _ h.at_, h.newF, fun p hp => ⟨(h.rows p hp).1, (h.rows p hp).2.1, s _ _ (h.rows p hp).2.2⟩, h.nd⟩
theorem RowsT.rowsAt {H0 H : Hp} {F : Addr} {rs : List (Addr × List Int)} (h : RowsT H0 H F rs) : RowsAt K H F (rs.map (·.2)) := ⟨rs, SqL.of h.at_, fun p hp => (h.rows p hp).2.2, rfl⟩
theorem lists_reps {H : Hp} : ∀ rs : List (Addr × List Int), (∀ p ∈ rs, H p.1 = some (.lst (p.2.map V.int))) → Reps K H ((rs.map (·.2)).map lstI) (rs.map rv)
  | [], _ => by show Reps K H [] []; unfold Reps; rfl
  | p :: ps, h => by
    show Reps K H (lstI p.2 :: (ps.map (·.2)).map lstI) (rv p :: ps.map rv)
    unfold Reps
    exact ⟨_, _, rfl, rep_lstI.mpr ⟨p.1, rfl, SqL.of (h p List.mem_cons_self)⟩, lists_reps ps fun q hq => h q (List.mem_cons_of_mem _ hq)⟩
theorem RowsT.rep {H0 H : Hp} {F : Addr} {rs : List (Addr × List Int)} (h : RowsT H0 H F rs) : Rep K H (.lst ((rs.map (·.2)).map lstI)) (.ref F) := by
  unfold Rep
  exact ⟨F, _, rfl, SqL.of h.at_, lists_reps rs fun p hp => (h.rows p hp).2.2⟩
/-- what is sure of the system that the law holds -/
structure SysG (x : Str) (ts : List (List Int)) : Prop where
  pos : 1 ≤ x.length
  most : x.length ≤ 3
  ab : ∀ c ∈ x.cps.toList, c = 97 ∨ c = 98
  ok : ∀ t ∈ ts, TileOk x.length t
  up : ts.Pairwise fun a b => HT.lexLt a b = true
  few : ts.length ≤ 63
def SysR (K : PySem.W.Frag) (x : Str) (rs : List (Addr × List Int)) (F : Addr) (v : V) (H : Hp) : Prop := ∃ r T ts, v = .ref r ∧ SqT K H r [.str x, .ref T] ∧ TilesAt K H T ts ∧ T ≠ F ∧ (∀ p ∈ rs, p.1 ≠ T) ∧ SysG x ts
theorem rq_ifJ {tt : TT} {ts us : TS} {D : Ends} {σ : L2.St} {H : Hp} {b : Bool} (R : L2.St → Hp → Prop) (h : Gt tt σ H b) (k1 : b = true → ∀ H', Same H H' → ∀ nx : L2.St → Hp → Prop, (∀ σ H, R σ H → nx σ H) → ts { D with nx := nx } σ H')
    (k0 : b = false → ∀ H', Same H H' → R σ H') (k : ∀ σ H, R σ H → us D σ H) : tSeq (tIfS tt ts tNext) us D σ H := rq_if h (fun c H1 s1 => k1 c H1 s1 (us D) k) fun c H1 s1 => k _ _ (k0 c H1 s1)
theorem sqT_put {H : Hp} {c q : Addr} {zs xs : List V} {o : HO} (h : SqT K H q xs) (hc : H c = some (.lst zs)) : SqT K (upd H c o) q xs := by
  rcases h with (h | ⟨u, h⟩) | h
  · exact .inl (.inl (by rw [upd_ne (fun z => by rw [z, hc] at h; cases h)]; exact h))
  · exact .inl (.inr ⟨u, by rw [upd_ne (fun z => by rw [z, hc] at h; cases h)]; exact h⟩)
  · exact .inr h
def picOf (x : Str) (row : List Int) : Str := Txt.join "" ((row.map fun m => x.cps.getD m.toNat 0).map one1)
theorem picOf_cps (x : Str) (row : List Int) : (picOf x row).cps.toList = row.map fun m => x.cps.getD m.toNat 0 := join_cps _
theorem picOf_len (x : Str) (row : List Int) : (picOf x row).length = row.length := by
  show (picOf x row).cps.size = _
  rw [← Array.length_toList, picOf_cps, List.length_map]
/-- what stands still in the law's second half -/
structure Here (K : PySem.W.Frag) (H : Hp) (a : Addr) (ns : List Int) (r : Addr) (x : Str) (ts : List (List Int)) (b : Addr) (p : List Str) : Prop where
  scr : SqL K H a (ns.map V.int)
  sys : SysT K H r x ts
  pic : H b = some (.lst (p.map V.str))
theorem Here.same {H H' : Hp} {a r b : Addr} {ns : List Int} {x : Str} {ts : List (List Int)} {p : List Str} (h : Here K H a ns r x ts b p) (s : Same H H') : Here K H' a ns r x ts b p := ⟨s.seq h.scr, h.sys.same s, s _ _ h.pic⟩
/-- a picture of the law's -/
structure PicG (hg wd : Nat) (p : List Str) : Prop where
  len : p.length = hg
  row : ∀ r ∈ p, r.length = wd
  ab : ∀ r ∈ p, ∀ c ∈ r.cps.toList, c = 97 ∨ c = 98
def Pr (K : PySem.W.Frag) (v : V) (H : Hp) : Prop := ∃ (F : Addr) (rows : List (List Int)), v = .ref F ∧ RowsAt K H F rows ∧ rows.length ≤ 8 ∧ ∀ r ∈ rows, r.length ≤ 8
theorem pr_stay : Stay (Pr K) := fun v H H' s h => by
  obtain ⟨F, rows, e, q, z⟩ := h
  exact ⟨F, rows, e, q.same s, z⟩
theorem gp_rowsN {te : TE} {σ : L2.St} {H : Hp} {xs : List V} {rs : List (Addr × List Int)} (h : Gn te σ H xs) (e : xs = rs.map rv) (hr : ∀ p ∈ rs, H p.1 = some (.lst (p.2.map V.int)) ∧ p.2.length ≤ 8) (hl : rs.length ≤ 8) : Gp te σ H (Pr K) :=
  fun R r => h _ fun p H' hp s hpl => r _ H' s ⟨p, rs.map (·.2), rfl, ⟨rs, SqL.of (by rw [hpl, e]), fun q hq => s _ _ (hr q hq).1, rfl⟩, by rw [List.length_map]; exact hl, fun q hq => by
    obtain ⟨p', hp', rfl⟩ := List.mem_map.mp hq
    exact (hr p' hp').2⟩
theorem sysG_ok {x : Str} {ts : List (List Int)} (h : SysG x ts) : sysB x ts = true := by
  have hm' := h.most
  have e1 : lettersOk x = true := by
    unfold lettersOk
    rw [List.all_eq_true]
    intro c hc
    rcases h.ab c hc with rfl | rfl <;> decide +kernel
  have e2 : ts.all (tileB x.length) = true := List.all_eq_true.mpr fun t ht => tile_of (h.ok t ht)
  unfold sysB
  rw [decide_eq_true (show x.length ≤ 16 by omega), e1, e2, rise_of h.up]
  rfl
theorem fair_ints (ns ms : List Int) : Fair (lstI ns) (lstI ms) := by
  have c1 : ∀ ns : List Int, (lstI ns).py.canLay0 = true := fun ns => by show PyData.canLayAll0 (Dt.pys _) = true; rw [pys_ints]; exact lay_ints ns
  have c2 : ∀ ns : List Int, (lstI ns).py.depth = 1 := fun ns => by show PyData.depthAll (Dt.pys _) + 1 = 1; rw [pys_ints, depth_ints]
  exact ⟨c1 ns, c1 ms, by rw [c2, c2]; decide⟩
theorem eqv_lists (ns ms : List Int) : PyData.eqv (lstI ns).py (lstI ms).py = decide (ns = ms) := by
  show PyData.eqvAll (Dt.pys _) (Dt.pys _) = _
  rw [pys_ints, pys_ints, eqv_ints]
theorem cut_init {α : Type} (f : α → V) (l : List α) : cutV (l.map f) none (some (-1)) = (l.take (l.length - 1)).map f := by
  have e : HT.sIx (l.map f).length (l.map f).length (some (-1)) = l.length - 1 := by
    show (if (-1 : Int) < 0 then ((-1 : Int) + ((l.map f).length : Int)).toNat else min (-1 : Int).toNat (l.map f).length) = _
    rw [if_pos (by decide), List.length_map]
    omega
  unfold cutV
  rw [e, HT.sIx_none, Nat.sub_zero, List.drop_zero, List.map_take]
theorem pic_ok {hg wd : Nat} {p : List Str} (h : PicG hg wd p) (h1 : 1 ≤ hg) (h3 : hg ≤ 3) (w1 : 1 ≤ wd) (w3 : wd ≤ 3) : picOk p = true := by
  have hl := h.len
  have hw : wide0 p = wd := by
    cases p with
    | nil => simp at hl; omega
    | cons q r => exact h.row q List.mem_cons_self
  have hall : p.all (rowOk (wide0 p)) = true := List.all_eq_true.mpr fun q hq => by
    unfold rowOk
    rw [hw, h.row q hq, decide_eq_true rfl, Bool.true_and]
    unfold lettersOk
    rw [List.all_eq_true]
    intro c hc
    rcases h.ab q hq c hc with rfl | rfl <;> decide +kernel
  unfold picOk
  rw [hall, hw, hl, decide_eq_true (by omega), decide_eq_true (by omega), decide_eq_true (by omega), decide_eq_true (by omega)]
  rfl
theorem gv_inT {ta tb : TE} {σ : L2.St} {H : Hp} {c L : Addr} {k : List Int} {ps : List (Addr × List Int)} (ha : Gv ta σ H (.ref c)) (hd : ∀ H', Same H H' → Gv tb σ H' (.ref L)) (hc : SqT K H c (k.map V.int)) (hL : SqL K H L (ps.map rv)) (ht : ∀ p ∈ ps, SqT K H p.1 (p.2.map V.int)) :
    Gv (tOp (rInT K false) ta tb) σ H (.bl (decide (∃ p ∈ ps, p.2 = k))) := fun R r => ha _ fun H1 s1 => hd H1 s1 _ fun H2 s2 => ⟨c, L, k, ps, rfl, rfl, (s1.trans s2).tup hc, (s1.trans s2).seq hL, fun p hp => (s1.trans s2).tup (ht p hp), by rw [Bool.false_xor]; exact r H2 (s1.trans s2)⟩
theorem gv_eqG {neg : Bool} {ta tb : TE} {σ : L2.St} {H : Hp} {u v : V} {d e : Dt} (ha : Gv ta σ H u) (hb : ∀ H', Same H H' → Gv tb σ H' v) (F : Fair d e) (hx : ∀ H', Rep K H' d u) (hy : ∀ H', Rep K H' e v) : Gv (tOp (rEqG K neg) ta tb) σ H (.bl (neg ^^ PyData.eqv d.py e.py)) :=
  fun R r => ha _ fun H1 s1 => hb H1 s1 _ fun H2 s2 => ⟨d, e, F, hx H2, hy H2, r H2 (s1.trans s2)⟩
theorem gv_isiB {tt : TA} {σ : L2.St} {H : Hp} {b0 : Bool} (h : Ga tt σ H [.bl b0, .ty "bool"]) (hk : PySem.W.kitOne K (.type "bool") (clsV (.ty "bool")) = some true) :
    Gv (tCB (fun xs H Q => ∃ x c t b, xs = [x, c] ∧ ((∃ a, c = .ref a) ∨ ∃ n, c = .ty n) ∧ TyV K H x t ∧ PySem.W.kitOne K t (clsV c) = some b ∧ Q (.bl b) H) tt) σ H (.bl true) := fun R r => h _ fun H' s => ⟨_, _, _, true, rfl, .inr ⟨_, rfl⟩, .of (.bl b0), hk, r H' s⟩
theorem gv_told {E : XK} {tt : TA} {σ : L2.St} {H : Hp} {n : Nat} {a b r : Addr} {x : Str} {ts : List (List Int)} {p : List Str} {rows : List (List Int)} (h : Ga tt σ H [.int n, .ref a, .ref b, .ref r]) (hs : SysAt K H a x ts) (hm : Mild x ts) (hb : SqL K H b (p.map V.str)) (hp : Sm p) (hr : RowsAt K H r rows) : Gv (tCall (sp_told K) [] E tt) σ H (toldV n x ts p rows) :=
  gv_call h fun H' R s k => ⟨n, a, b, r, x, ts, p, rows, rfl, hs.same s, hm, s.seq hb, hp, hr.same s, k⟩
theorem gv_toldN {E : XK} {t1 t2 t3 t4 : TE} {σ : L2.St} {H : Hp} {n : Nat} {a r : Addr} {x : Str} {ts : List (List Int)} {p : List Str} {rows : List (List Int)} (h1 : Gv t1 σ H (.int n)) (h2 : ∀ H', Same H H' → Gv t2 σ H' (.ref a)) (h3 : ∀ H', Same H H' → Gn t3 σ H' (p.map V.str)) (h4 : ∀ H', Same H H' → Gv t4 σ H' (.ref r))
    (hs : SysAt K H a x ts) (hm : Mild x ts) (hp : Sm p) (hr : RowsAt K H r rows) : Gv (tCall (sp_told K) [] E (tCons t1 (tCons t2 (tCons t3 (tCons t4 tNil))))) σ H (toldV n x ts p rows) :=
  fun R k => h1 _ fun H1 s1 => h2 H1 s1 _ fun H2 s2 => h3 H2 (s1.trans s2) _ fun q H3 hq s3 hq3 => h4 H3 ((s1.trans s2).trans s3) _ fun H4 s4 => by
    have s04 := ((s1.trans s2).trans s3).trans s4
    exact ⟨n, a, q, r, x, ts, p, rows, rfl, hs.same s04, hm, SqL.of (s4 _ _ hq3), hp, hr.same s04, fun H5 s5 => k H5 (s04.trans s5)⟩
theorem lay_tups : ∀ ts : List (List Int), PyData.canLayAll0 (Dt.pys (ts.map tupI)) = true
  | [] => rfl
  | t :: ts => by
    show (PyData.canLayAll0 (Dt.pys (t.map Dt.int)) && PyData.canLayAll0 (Dt.pys (ts.map tupI))) = true
    rw [pys_ints, lay_ints, lay_tups ts]
    rfl
theorem eqv_nil (ts : List (List Int)) : PyData.eqv (Dt.lst (ts.map tupI)).py (Dt.lst []).py = decide (ts = []) := by
  cases ts with
  | nil => rfl
  | cons t ts => rfl
theorem fair_nil (ts : List (List Int)) : Fair (.lst (ts.map tupI)) (.lst []) := ⟨lay_tups ts, rfl, by
  have : (Dt.lst []).py.depth = 1 := rfl
  rw [this]
  exact Nat.le_trans (Nat.min_le_right _ _) (by decide)⟩
theorem fair_w {s1 s2 : Str} (h1 : (Dt.str s1).py.canLay0 = true := by decide +kernel) (h2 : (Dt.str s2).py.canLay0 = true := by decide +kernel) : Fair (.str s1) (.str s2) := ⟨h1, h2, by show min 0 0 ≤ 60; decide⟩
theorem gt_truB {ta : TE} {σ : L2.St} {H : Hp} {b : Bool} (h : Gv ta σ H (.bl b)) : Gt (fun σ H Q => ta σ H fun x H' => ∃ k, TruV K x H' k ∧ Q k H') σ H b := fun R r => h _ fun H' s => ⟨b, rfl, r H' s⟩
theorem rep_str {H : Hp} (z : Str) : Rep K H (.str z) (.str z) := by unfold Rep; rfl
theorem rep_non {H : Hp} : Rep K H .non .non := by unfold Rep; rfl
def sp_law (K : PySem.W.Frag) : Sp := fun vs H Q _ => ∃ (a : Addr) (ns : List Int), vs = [.ref a] ∧ SqL K H a (ns.map V.int) ∧ ns.length ≤ 63 ∧ ∀ H', Q (.bl true) H'
theorem sc_law : FnScope ["_law_script", "_law_system_here", "_law_high", "_law_wide", "_law_rows", "_law_y", "_law_picture", "_law_number", "_law_x", "_law_due", "_law_found", "_law_bad", "_law_good_here"] ["_law_script"] (defScope s_law) := ⟨rfl, rfl, rfl, by decide +kernel, rfl, by decide +kernel, by decide +kernel⟩
theorem ok_law (T : Txt K mg t) : FnOk P w K mg base CX0 6 t.f_law t.d_law ["_law_script"] (sp_law K) := by
  have G__law_mix : FnOk P w K mg base CX0 2 t.f__law_mix t.d__law_mix ["_law_script", "_law_k"] (sp_mix K) := ok__law_mix T
  have G__law_tiles : FnOk P w K mg base CX0 1 t.f__law_tiles t.d__law_tiles ["_law_rows"] (sp_tiles K) := ok__law_tiles T
  have G__law_system : FnOk P w K mg base CX0 4 t.f__law_system t.d__law_system ["_law_script", "_law_k", "_law_marks"] (sp_system K) := ok__law_system T
  have G__law_told : FnOk P w K mg base CX0 5 t.f__law_told t.d__law_told ["_law_way", "_law_system_here", "_law_picture", "_law_rows"] (sp_told K) := ok__law_told T
  have G__law_good : FnOk P w K mg base CX0 1 t.f__law_good t.d__law_good ["_law_system_here"] (sp_is_system K) := ok__law_good T
  have G__law_spoilt : FnOk P w K mg base CX0 1 t.f__law_spoilt t.d__law_spoilt ["_law_system_here", "_law_number"] (sp_spoilt K) := ok__law_spoilt T
  refine T.law.fn.ok sc_law (fun vs H Q E h => ?_) (fun cdv A outer s H vs Q E hr h => ?_)
  · obtain ⟨a, ns, rfl, _⟩ := h
    rfl
  obtain ⟨a, ns, rfl, hS, hl, kk⟩ := h
  have hkt := T.kt_bool_bool
  refine ⟨_, (pss_cons (ps_set (i := 1) sc_law.nd rfl (by first | exact Or.inl rfl | exact Or.inr rfl) (pe_callD T._law_system G__law_system (hr.mono (by first | decide | omega)) pass0 (pa_cons (pv 0) (pa_cons pe_int (pa_cons pe_int pa_nil))))) (pss_cons (ps_set (i := 2) sc_law.nd rfl (by first | exact Or.inl rfl | exact Or.inr rfl) (pe_op op_add pe_int (pe_op op_mod (pe_callD T._law_mix G__law_mix (hr.mono (by first | decide | omega)) pass0 (pa_cons (pv 0) (pa_cons pe_int pa_nil))) pe_int))) (pss_cons (ps_set (i := 3) sc_law.nd rfl (by first | exact Or.inl rfl | exact Or.inr rfl) (pe_op op_add pe_int (pe_op op_mod (pe_callD T._law_mix G__law_mix (hr.mono (by first | decide | omega)) pass0 (pa_cons (pv 0) (pa_cons pe_int pa_nil))) pe_int))) (pss_cons (ps_set (i := 4) sc_law.nd rfl (by first | exact Or.inl rfl | exact Or.inr rfl) (pe_lst pa_nil)) (pss_cons (ps_for PassesOwn.never rfl (pi_range1 rfl T.n_range (pa_cons (pv 2) pa_nil)) (pg_name (i := 5) sc_law.nd rfl (by first | exact Or.inl rfl | exact Or.inr rfl)) (pss_one (ps_expr (kBm K PySem.F.plainAttrs_list PySem.F.slot_list_append PySem.F.type_list_append mt_append (pv 4) (pa_cons (pe_comp (N' := ["_law_x", "_law_script", "_law_y", "_law_system_here"]) (ix := [none, some 0, some 5, some 1]) (compScope_of (by kernel_rfl)) rfl (pi_range1 rfl T.n_range (pa_cons (pv 3) pa_nil)) (fun _ _ _ _ => (pg_name (i := 0) (show List.Nodup (["_law_x", "_law_script", "_law_y", "_law_system_here"] : List Str) from by decide +kernel) rfl (by first | exact Or.inl rfl | exact Or.inr rfl))) (fun _ _ _ _ => pf_nil) (fun _ _ _ _ => (pe_op op_mod (pe_op op_fdiv (pe_callD T._law_mix G__law_mix (hr.mono (by first | decide | omega)) pass0 (pa_cons (pv 1) (pa_cons (pe_op op_add (pe_op op_add pe_int (pe_op op_mul pe_int (pv 2))) (pv 0)) pa_nil))) pe_int) (pe_callB (kLen K) (by rfl) T.n_len boot_len (pa_cons (pe_ix (kIxT K) (pv 3) pe_int (fun _ _ => rfl)) pa_nil))))) pa_nil))))) (pss_cons (ps_if (pt_cmpR op_gt (pe_op op_mod (pe_callD T._law_mix G__law_mix (hr.mono (by first | decide | omega)) pass0 (pa_cons (pv 0) (pa_cons pe_int pa_nil))) pe_int) pe_int (nomark _)) (pss_one (ps_set (i := 1) sc_law.nd rfl (by first | exact Or.inl rfl | exact Or.inr rfl) (pe_tup (pa_cons (pe_ix (kIxT K) (pv 1) pe_int (fun _ _ => rfl)) (pa_cons (pe_callB (kSorted K P w) (by rfl) T.n_sorted boot_sorted (pa_cons (pe_callTy (kSet K P w hr.units) (by rfl) T.n_set boot_set (pa_cons (pe_op op_cat (pe_ix (kIxT K) (pv 1) pe_int (fun _ _ => rfl)) (pe_callD T._law_tiles G__law_tiles (hr.mono (by first | decide | omega)) pass0 (pa_cons (pv 4) pa_nil))) pa_nil)) pa_nil)) pa_nil))))) pss_nil) (pss_cons (ps_setComp (i := 6) sc_law.nd rfl (by first | exact Or.inl rfl | exact Or.inr rfl) (N' := ["_law_row", "_law_system_here"]) (ix := [none, some 1]) (compScope_of (by kernel_rfl)) rfl (kiList K (pv 4)) (fun _ _ _ _ => (pg_name (i := 0) (show List.Nodup (["_law_row", "_law_system_here"] : List Str) from by decide +kernel) rfl (by first | exact Or.inl rfl | exact Or.inr rfl))) (fun _ _ _ _ => pf_nil) (fun _ _ _ _ => (kBm K PySem.F.plainAttrs_str PySem.F.slot_str_join PySem.F.type_str_join (kJoin K) pe_str (pa_cons (pe_comp (N' := ["_law_mark", "_law_system_here"]) (ix := [none, some 1]) (compScope_of (by kernel_rfl)) rfl (kiList K (pv 0)) (fun _ _ _ _ => (pg_name (i := 0) (show List.Nodup (["_law_mark", "_law_system_here"] : List Str) from by decide +kernel) rfl (by first | exact Or.inl rfl | exact Or.inr rfl))) (fun _ _ _ _ => pf_nil) (fun _ _ _ _ => (pe_ix ix_str (pe_ix (kIxT K) (pv 1) pe_int (fun _ _ => rfl)) (pv 0) (fun _ _ => rfl)))) pa_nil)))) (pss_cons (ps_set (i := 7) sc_law.nd rfl (by first | exact Or.inl rfl | exact Or.inr rfl) (pe_callD T._law_mix G__law_mix (hr.mono (by first | decide | omega)) pass0 (pa_cons (pv 0) (pa_cons pe_int pa_nil)))) (pss_cons (ps_if (pt_cmpR op_eq (pe_op op_mod (pv 7) pe_int) pe_int (nomark _)) (pss_cons (ps_set (i := 5) sc_law.nd rfl (by first | exact Or.inl rfl | exact Or.inr rfl) (pe_op op_mod (pe_op op_fdiv (pv 7) pe_int) (pv 2))) (pss_cons (ps_set (i := 8) sc_law.nd rfl (by first | exact Or.inl rfl | exact Or.inr rfl) (pe_op op_mod (pe_op op_fdiv (pv 7) pe_int) (pv 3))) (pss_one (ps_asg (pe_ix (kIxL K) (pe_lst (pa_cons (pe_un un_neg pe_int) (pa_cons (pe_callB (kLen K) (by rfl) T.n_len boot_len (pa_cons (pe_ix (kIxT K) (pv 1) pe_int (fun _ _ => rfl)) pa_nil)) (pa_cons (pe_op op_mod (pe_op op_add (pe_ix (kIxL K) (pe_ix (kIxL K) (pv 4) (pv 5) (fun _ _ => rfl)) (pv 8) (fun _ _ => rfl)) pe_int) (pe_callB (kLen K) (by rfl) T.n_len boot_len (pa_cons (pe_ix (kIxT K) (pv 1) pe_int (fun _ _ => rfl)) pa_nil))) pa_nil)))) (pe_op op_mod (pe_op op_fdiv (pv 7) pe_int) pe_int) (fun _ _ => rfl)) (pg_sub (pe_ix (kIxL K) (pv 4) (pv 5) (fun _ _ => rfl)) (pv 8) set_list))))) pss_nil) (pss_cons (ps_if (pt_cmpR op_eq (pe_op op_mod (pv 7) pe_int) pe_int (nomark _)) (pss_one (ps_set (i := 4) sc_law.nd rfl (by first | exact Or.inl rfl | exact Or.inr rfl) (pe_ix (kIxL K) (pe_lst (pa_cons (pe_slice (kSlL K) (pv 4) po_none (po_some (pe_un un_neg pe_int))) (pa_cons (pe_comp (N' := ["_law_row"]) (ix := [none]) (compScope_of (by kernel_rfl)) rfl (kiList K (pv 4)) (fun _ _ _ _ => (pg_name (i := 0) (show List.Nodup (["_law_row"] : List Str) from by decide +kernel) rfl (by first | exact Or.inl rfl | exact Or.inr rfl))) (fun _ _ _ _ => pf_nil) (fun _ _ _ _ => (pe_op op_cat (pv 0) (pe_lst (pa_cons pe_int pa_nil))))) (pa_cons (pe_op op_cat (pv 4) (pe_slice (kSlL K) (pv 4) po_none (po_some pe_int))) pa_nil)))) (pe_op op_mod (pe_op op_fdiv (pv 7) pe_int) pe_int) (fun _ _ => rfl)))) pss_nil) (pss_cons (ps_if (pt_cmpR op_eq (pe_op op_mod (pv 7) pe_int) pe_int (nomark _)) (pss_one (ps_set (i := 6) sc_law.nd rfl (by first | exact Or.inl rfl | exact Or.inr rfl) (pe_op op_cat (pe_slice (kSlL K) (pv 6) po_none (po_some (pe_un un_neg pe_int))) (pe_lst (pa_cons (pe_op op_mulS pe_str (pv 3)) pa_nil))))) pss_nil) (pss_cons (ps_set (i := 9) sc_law.nd rfl (by first | exact Or.inl rfl | exact Or.inr rfl) (pe_cmpR (kEqG K hr.units) (pe_comp (N' := ["_law_row"]) (ix := [none]) (compScope_of (by kernel_rfl)) rfl (kiList K (pv 4)) (fun _ _ _ _ => (pg_name (i := 0) (show List.Nodup (["_law_row"] : List Str) from by decide +kernel) rfl (by first | exact Or.inl rfl | exact Or.inr rfl))) (fun _ _ _ _ => pf_nil) (fun _ _ _ _ => (pe_callB (kLen K) (by rfl) T.n_len boot_len (pa_cons (pv 0) pa_nil)))) (pe_comp (N' := ["_law_row"]) (ix := [none]) (compScope_of (by kernel_rfl)) rfl (kiList K (pv 6)) (fun _ _ _ _ => (pg_name (i := 0) (show List.Nodup (["_law_row"] : List Str) from by decide +kernel) rfl (by first | exact Or.inl rfl | exact Or.inr rfl))) (fun _ _ _ _ => pf_nil) (fun _ _ _ _ => (pe_callB (kLen K) (by rfl) T.n_len boot_len (pa_cons (pv 0) pa_nil)))) (nomark _))) (pss_cons (ps_for PassesOwn.never rfl (pi_range1 rfl T.n_range (pa_cons (pe_op op_mul (pv 2) (pe_callTy call_int1 (by rfl) T.n_int boot_int (pa_cons (pv 9) pa_nil))) pa_nil)) (pg_name (i := 5) sc_law.nd rfl (by first | exact Or.inl rfl | exact Or.inr rfl)) (pss_one (ps_for PassesOwn.never rfl (pi_range1 rfl T.n_range (pa_cons (pv 3) pa_nil)) (pg_name (i := 8) sc_law.nd rfl (by first | exact Or.inl rfl | exact Or.inr rfl)) (pss_one (ps_set (i := 9) sc_law.nd rfl (by first | exact Or.inl rfl | exact Or.inr rfl) (pe_and (pv 9) (pe_and (pe_chain op_le op_lt pe_int (pe_ix (kIxL K) (pe_ix (kIxL K) (pv 4) (pv 5) (fun _ _ => rfl)) (pv 8) (fun _ _ => rfl)) (pe_callB (kLen K) (by rfl) T.n_len boot_len (pa_cons (pe_ix (kIxT K) (pv 1) pe_int (fun _ _ => rfl)) pa_nil))) (pe_one (pe_cmpR op_eq (pe_ix ix_str (pe_ix (kIxT K) (pv 1) pe_int (fun _ _ => rfl)) (pe_ix (kIxL K) (pe_ix (kIxL K) (pv 4) (pv 5) (fun _ _ => rfl)) (pv 8) (fun _ _ => rfl)) (fun _ _ => rfl)) (pe_ix ix_str (pe_ix (kIxL K) (pv 6) (pv 5) (fun _ _ => rfl)) (pv 8) (fun _ _ => rfl)) (nomark _)))))))))) (pss_cons (ps_set (i := 9) sc_law.nd rfl (by first | exact Or.inl rfl | exact Or.inr rfl) (pe_and (pv 9) (pe_one (pe_callB (kAll K) (by rfl) T.n_all boot_all (pa_cons (pe_comp (N' := ["_law_tile", "_law_system_here"]) (ix := [none, some 1]) (compScope_of (by kernel_rfl)) rfl (kiList K (pe_callD T._law_tiles G__law_tiles (hr.mono (by first | decide | omega)) pass0 (pa_cons (pv 4) pa_nil))) (fun _ _ _ _ => (pg_name (i := 0) (show List.Nodup (["_law_tile", "_law_system_here"] : List Str) from by decide +kernel) rfl (by first | exact Or.inl rfl | exact Or.inr rfl))) (fun _ _ _ _ => pf_nil) (fun _ _ _ _ => (pe_cmpR (kInT K hr.units) (pv 0) (pe_ix (kIxT K) (pv 1) pe_int (fun _ _ => rfl)) rfl))) pa_nil))))) (pss_cons (ps_set (i := 10) sc_law.nd rfl (by first | exact Or.inl rfl | exact Or.inr rfl) (pe_callD T._law_told G__law_told (hr.mono (by first | decide | omega)) pass0 (pa_cons pe_int (pa_cons (pv 1) (pa_cons (pv 6) (pa_cons (pv 4) pa_nil)))))) (pss_cons (ps_if (PW.pt (pw_or (pt_not (pt_val (pe_callB (kIsinstance K) (by rfl) T.n_isinstance boot_isinstance (pa_cons (pv 10) (pa_cons (pe_bltn (v := .ty "bool") rfl T.n_bool boot_bool rfl) pa_nil))))) (pw_or (pt_cmpR op_ne (pv 10) (pv 9) (nomark _)) (pw_or1 (pt_cmpR (kNeG K hr.units) (pe_callD T._law_told G__law_told (hr.mono (by first | decide | omega)) pass0 (pa_cons pe_int (pa_cons (pv 1) (pa_cons (pe_lst (pa_cons pe_str (pa_cons pe_str pa_nil))) (pa_cons (pv 4) pa_nil))))) pe_str (nomark _)))))) (pss_one (ps_ret pe_bl)) pss_nil) (pss_cons (ps_if (pt_cmpR (kEqG K hr.units) (pe_ix (kIxT K) (pv 1) pe_int (fun _ _ => rfl)) (pe_lst pa_nil) (nomark _)) (pss_one (ps_ret (pe_cmp (pc_isN (pe_callD T._law_told G__law_told (hr.mono (by first | decide | omega)) pass0 (pa_cons pe_int (pa_cons (pv 1) (pa_cons (pv 6) (pa_cons (pv 4) pa_nil))))))))) pss_nil) (pss_cons (ps_set (i := 11) sc_law.nd rfl (by first | exact Or.inl rfl | exact Or.inr rfl) (pe_callD T._law_spoilt G__law_spoilt (hr.mono (by first | decide | omega)) pass0 (pa_cons (pv 1) (pa_cons (pe_callD T._law_mix G__law_mix (hr.mono (by first | decide | omega)) pass0 (pa_cons (pv 0) (pa_cons pe_int pa_nil))) pa_nil)))) (pss_cons (ps_set (i := 12) sc_law.nd rfl (by first | exact Or.inl rfl | exact Or.inr rfl) (pe_callD T._law_good G__law_good (hr.mono (by first | decide | omega)) pass0 (pa_cons (pv 11) pa_nil))) (pss_cons (ps_if (pt_cmpR (kNeG K hr.units) (pe_callD T._law_told G__law_told (hr.mono (by first | decide | omega)) pass0 (pa_cons pe_int (pa_cons (pv 11) (pa_cons (pv 6) (pa_cons (pv 4) pa_nil))))) (pe_ifExp (kTruth K (pv 12) (fun _ => rfl)) pe_non pe_str) (nomark _)) (pss_one (ps_ret pe_bl)) pss_nil) (pss_one (ps_ret (pe_or (pv 12) (pe_one (pe_cmpR (kEqG K hr.units) (pe_callD T._law_told G__law_told (hr.mono (by first | decide | omega)) pass0 (pa_cons pe_int (pa_cons (pv 11) (pa_cons (pe_lst (pa_cons pe_str pa_nil)) (pa_cons (pv 4) pa_nil))))) pe_str (nomark _)))))))))))))))))))))))))), ?_⟩
  refine rq_set' (tcall (ga_cons (gv_var (by rfl)) fun _ _ => ga_cons gv_c fun _ _ => ga_1 gv_c) fun H1 s1 => ⟨a, ns, 0, 3, rfl, s1.seq hS, hl, by decide, by decide, fun r T H2 x ts ws hr hT s2 hr2 hT2 rep hSys => ?_⟩)
  have s02 := s1.trans s2
  obtain ⟨ps, rfl, hps2, hps3⟩ := reps_tups rep
  subst hps2
  have mod3 : ∀ z : Int, ∃ c : Nat, 1 + z % 3 = (c : Int) ∧ 1 ≤ c ∧ c ≤ 3 := fun z => ⟨(1 + z % 3).toNat, by omega, by omega, by omega⟩
  obtain ⟨hg, hhg, hg1, hg3⟩ := mod3 (mix ns 200)
  obtain ⟨wd, hwd, wd1, wd3⟩ := mod3 (mix ns 201)
  refine rq_set (gv_eq (gv_ii gv_c fun H3 s3 => gv_iic (gv_mix hS hl (s02.trans s3) (ga_cons (gv_var (by rfl)) fun _ _ => ga_1 gv_c)) (fun _ _ => gv_c) (by decide)) (y := .int (hg : Int)) (congrArg V.int hhg)) fun H3 s3 => ?_
  refine rq_set (gv_eq (gv_ii gv_c fun H4 s4 => gv_iic (gv_mix hS hl (s02.trans (s3.trans s4)) (ga_cons (gv_var (by rfl)) fun _ _ => ga_1 gv_c)) (fun _ _ => gv_c) (by decide)) (y := .int (wd : Int)) (congrArg V.int hwd)) fun H4 s4 => ?_
  have s04 := s02.trans (s3.trans s4)
  have s24 := s3.trans s4
  have hxp := hSys.pos
  refine rq_set' ⟨(by show 0 ≤ sizeLine; decide), fun F hF => ?_⟩
  refine rq_forR (n := hg) (ga_1 (gv_var (by rfl))) (by omega)
    (fun i σ H5 => ∃ (e5 : Option V) (rs : List (Addr × List Int)), σ = [some (.ref a), some (.ref r), some (.int (hg : Int)), some (.int (wd : Int)), some (.ref F), e5, none, none, none, none, none, none, none] ∧ Same H4 H5 ∧ RowsT H4 H5 F rs ∧ rs.length = i ∧ ∀ p ∈ rs, p.2.length = wd ∧ ∀ f ∈ p.2, 0 ≤ f ∧ f < x.length)
    (fun H5 s5 => ⟨none, [], rfl, (Same.new hF _).trans s5, ⟨s5 _ _ upd_same, hF, fun p hp => absurd hp (by simp), List.nodup_nil⟩, rfl, fun p hp => absurd hp (by simp)⟩) ?_ ?_
  · rintro i σ H5 hi ⟨e5, rs, rfl, s5, RT, hrl, hrw⟩
    refine ⟨_, rfl, .inl ⟨rfl, _, SqL.of RT.at_⟩, ?_⟩
    refine tcompR (ga_1 (gv_var (by rfl))) (by omega) (by omega) fun H6 s6 => ?_
    refine comp_range_map (fun j => .int (mix ns (202 + 3 * (i : Int) + (0 + (j : Int))) / 8 % x.length)) (small (by omega)) (fun j H7 R' hj s7 k7 => ?_) fun D' H7 hD' s7 hDl' => ?_
    · have s27 := s24.trans (s5.trans (s6.trans s7))
      exact gv_to (gv_iic (gv_iic (gv_mix hS hl (s02.trans s27) (ga_cons (gv_var (by rfl)) fun _ _ => ga_1 (gv_ii (gv_ii gv_c fun _ _ => gv_iic gv_c (fun _ _ => gv_var (by rfl)) (.inl ⟨by decide, by decide⟩)) fun _ _ => gv_var (by rfl)))) (fun _ _ => gv_c) ⟨by decide, by decide⟩) (fun H8 s8 => gv_lenS (K := K) (ga_1 (gv_ixT (K := K) (gv_var (by rfl)) (fun _ _ => gv_c) (SqT.of ((s27.trans s8) _ _ hr2)) (atI_nat (j := 0) rfl))) (small (by have := hSys.most; omega))) (by show (0 : Int) < x.length; omega)) fun H8 s8 => k7 H8 s8
    generalize hrow : (List.range (wd : Int).toNat).map (fun (j : Nat) => mix ns (202 + 3 * (i : Int) + (0 + (j : Int))) / 8 % (x.length : Int)) = row
    have hDr : H7 D' = some (.lst (row.map V.int)) := by rw [hDl', ← hrow, List.map_map]; rfl
    have hrowl : row.length = wd := by rw [← hrow]; simp
    have hrowi : ∀ f ∈ row, 0 ≤ f ∧ f < x.length := fun f hf => by
      rw [← hrow] at hf
      obtain ⟨j, _, rfl⟩ := List.mem_map.mp hf
      exact ⟨Int.emod_nonneg _ (by omega), Int.emod_lt_of_pos _ (by omega)⟩
    have s57 := s6.trans s7
    have hD5 : H5 D' = none := s6.free hD'
    have ne : D' ≠ F := fun z => by rw [z, RT.at_] at hD5; cases hD5
    have nin : ∀ p ∈ rs, p.1 ≠ D' := fun p hp z => by rw [← z, (RT.rows p hp).2.2] at hD5; cases hD5
    refine ⟨F, rs.map rv, _, rfl, rfl, s57 _ _ RT.at_, ?_, _, rs ++ [(D', row)], rfl, (s5.trans s57).put hF _, ⟨by rw [upd_same, List.map_append]; rfl, hF, fun p hp => ?_, ?_⟩, by simp [hrl], fun p hp => ?_⟩
    · rw [List.length_map]
      exact Nat.lt_of_le_of_lt (show rs.length ≤ 1000 by omega) (by decide)
    · rcases List.mem_append.mp hp with z | z
      · obtain ⟨q1, q2, q3⟩ := RT.rows p z
        exact ⟨q1, q2, by rw [upd_ne q2]; exact s57 _ _ q3⟩
      · rw [List.mem_singleton.mp z]
        exact ⟨s5.free hD5, ne, by rw [upd_ne ne]; exact hDr⟩
    · rw [List.map_append, List.nodup_append]
      refine ⟨RT.nd, by simp, fun u hu v hv => ?_⟩
      obtain ⟨p, hp, rfl⟩ := List.mem_map.mp hu
      have hv' : v = D' := by simpa using hv
      rw [hv']
      exact nin p hp
    · rcases List.mem_append.mp hp with z | z
      · exact hrw p z
      · rw [List.mem_singleton.mp z]; exact ⟨hrowl, hrowi⟩
  rintro σ H5 ⟨e5, rs, rfl, s5, RT, hrl, hrw⟩
  have s25 := s24.trans s5
  have hrne : rs.map (·.2) ≠ [] := fun z => by
    have := congrArg List.length z
    rw [List.length_map, List.length_nil] at this
    omega
  have hwid : wid (rs.map (·.2)) = wd := by
    cases rs with
    | nil => exact absurd rfl hrne
    | cons p0 rr => exact (hrw p0 List.mem_cons_self).1
  have hrect : ∀ q ∈ rs.map (·.2), q.length = wid (rs.map (·.2)) := fun q hq => by
    obtain ⟨p, hp, rfl⟩ := List.mem_map.mp hq
    rw [hwid]
    exact (hrw p hp).1
  have marks : Marks x.length (rs.map (·.2)) := ⟨hrne, by rw [List.length_map]; omega, by rw [hwid]; omega, hrect, fun q hq f hf => by
    obtain ⟨p, hp, rfl⟩ := List.mem_map.mp hq
    exact (hrw p hp).2 f hf⟩
  have hT4 : H4 T = some (.lst (ps.map rv)) := s24 _ _ hT2
  have hTF : T ≠ F := fun z => by rw [z, RT.newF] at hT4; cases hT4
  have hTr : ∀ p ∈ rs, p.1 ≠ T := fun p hp z => by rw [← z, (RT.rows p hp).1] at hT4; cases hT4
  have ndT : (ps.map (·.2)).Nodup := List.Pairwise.imp (fun {u v} h e => by rw [e, TB.lex_irrefl] at h; cases h) hSys.up
  have fewT := few_of (l := ps.map (·.2)) hSys.few ndT fun k hk => hk
  refine rq_ifSetH (n := 1) (v0 := .ref r) (SysR K x rs F) (gt_test (gv_ii (gv_iic (gv_mix hS hl (s02.trans s25) (ga_cons (gv_var (by rfl)) fun _ _ => ga_1 gv_c)) (fun _ _ => gv_c) (by decide)) fun _ _ => gv_c)) (by rfl) (fun H6 s6 => ?_) (fun _ H6 s6 Q6 k6 => ?_) fun v H6 hv6 s6 => ?_
  · exact ⟨r, T, _, rfl, SqT.of ((s25.trans s6) _ _ hr2), ⟨ps, (s25.trans s6) _ _ hT2, fun p hp => (s25.trans s6).tup (hps3 p hp), rfl⟩, hTF, hTr, hSys.pos, hSys.most, hSys.ab, hSys.ok, hSys.up, by omega⟩
  · have s26 := s25.trans s6
    refine (gv_ixT (K := K) (gv_var (by rfl)) (fun _ _ => gv_c) (SqT.of (s26 _ _ hr2)) (atI_nat (j := 0) rfl)) _ fun H7 s7 => ?_
    refine (gv_ixT (K := K) (gv_var (by rfl)) (fun _ _ => gv_c) (SqT.of ((s26.trans s7) _ _ hr2)) (atI_nat (j := 1) rfl)) _ fun H8 s8 => ?_
    refine tcall (ga_1 (gv_var (by rfl))) fun H9 s9 => ⟨F, rs.map (·.2), rfl, (RT.same (s6.trans (s7.trans (s8.trans s9)))).rep, hrne, hrect, by rw [List.length_map]; omega, by omega, fun G HA gs hG sA hGA rG => ?_⟩
    have s5A := s6.trans (s7.trans (s8.trans (s9.trans sA)))
    have s2A := s25.trans s5A
    obtain ⟨gps, rfl, hgp2, hgp3⟩ := reps_tups rG
    obtain ⟨gf1, gf2⟩ := grid_few (hSys.most) marks
    have hgl : gps.length ≤ 16 := by rw [← hgp2, List.length_map] at gf2; exact gf2
    have hpl : ps.length ≤ 51 := by have := fewT.1; rw [List.length_map] at this; omega
    refine ⟨T, G, ps.map rv, gps.map rv, rfl, rfl, s2A _ _ hT2, hGA, small (by simp; omega), fun p hp => ?_⟩
    have sp := Same.new hp (.lst (ps.map rv ++ gps.map rv))
    have tup : ∀ q ∈ ps ++ gps, SqT K HA q.1 (q.2.map V.int) := fun q hq => by
      rcases List.mem_append.mp hq with z | z
      · exact s2A.tup (hps3 q z)
      · exact hm_out.tup (hgp3 q z)
    have okz : ∀ q ∈ ps ++ gps, TileOk x.length q.2 := fun q hq => by
      rcases List.mem_append.mp hq with z | z
      · exact hSys.ok _ (List.mem_map.mpr ⟨q, z, rfl⟩)
      · exact grid_ok marks _ (by rw [← hgp2]; exact List.mem_map.mpr ⟨q, z, rfl⟩)
    have cz : ((ps ++ gps).map (·.2)).countP nonc ≤ 51 := by
      rw [List.map_append, List.countP_append, hgp2]
      have := hSys.few
      omega
    have fw : ∀ l : List (List Int), l.Nodup → (∀ k ∈ l, ∃ q ∈ ps ++ gps, q.2 = k) → l.length ≤ 63 := fun l nd hk => (few_of cz nd fun k hk' => by
      obtain ⟨q, hq, e⟩ := hk k hk'
      exact List.mem_map.mpr ⟨q, hq, e⟩).1
    refine ⟨p, ps ++ gps, rfl, SqL.of (by rw [upd_same, List.map_append]), fun q hq => sp.tup (tup q hq), fun l nd hk => Nat.le_trans (fw l nd hk) (by decide), fun S qs hSn m1 m2 nd => ?_⟩
    have sS := Same.new hSn (setO P w S qs)
    have hql : qs.length ≤ 63 := by
      have := fw (qs.map (·.2)) nd fun k hk => by
        obtain ⟨q, hq, e⟩ := List.mem_map.mp hk
        exact ⟨q, m1 q hq, e⟩
      rwa [List.length_map] at this
    refine ⟨S, qs, rfl, upd_same, fun q hq => (sp.trans sS).tup (tup q (m1 q hq)), fun q hq => ?_, by omega, fun l rs' hln pm pw => ⟨(by show 2 ≤ sizeLine; decide), fun rr hrr => ?_⟩⟩
    · have := (okz q (m1 q hq)).1
      intro e
      rw [e] at this
      cases this
    · have sl := Same.new hln (.lst (rs'.map rv))
      have sr := Same.new hrr (.tup [V.str x, .ref l])
      have mem : ∀ q ∈ rs', q ∈ ps ++ gps := fun q hq => m1 q (pm.mem_iff.mp hq)
      have all := s7.trans (s8.trans (s9.trans (sA.trans (sp.trans (sS.trans (sl.trans sr))))))
      have s5l := s5A.trans (sp.trans sS)
      have hl5 : H5 l = none := s5l.free hln
      refine k6 _ _ ⟨rr, l, rs'.map (·.2), rfl, SqT.of upd_same, ⟨rs', sr _ _ upd_same, fun q hq => (sp.trans (sS.trans (sl.trans sr))).tup (tup q (mem q hq)), rfl⟩, fun z => ?_, fun q hq z => ?_, hSys.pos, hSys.most, hSys.ab, fun t' ht => ?_, List.pairwise_map.mpr pw, ?_⟩ all
      · rw [z, RT.at_] at hl5; cases hl5
      · rw [← z, (RT.rows q hq).2.2] at hl5; cases hl5
      · obtain ⟨q, hq, rfl⟩ := List.mem_map.mp ht
        exact okz q (mem q hq)
      · rw [List.length_map, pm.length_eq]; exact hql
  obtain ⟨r6, T6, ts6, rfl, hr6, hT6, hTF6, hTr6, G⟩ := hv6
  clear ndT fewT hT4 hTF hTr
  have RT6 := RT.same s6
  have s06 := s04.trans (s5.trans s6)
  have inx : ∀ p ∈ rs, ∀ f ∈ p.2, 0 ≤ f ∧ f < x.length := fun p hp => (hrw p hp).2
  have hx3 := G.most
  refine rs_seq (rs_scL (K := K) (gv_var (by rfl)) (SqL.of RT6.at_) fun H7 s7 hq7 => ?_)
  refine comp_list_idx (fun i => .str (picOf x ((rs.map (·.2)).getD i []))) hq7 (small (by rw [List.length_map]; omega)) (fun i v H8 R8 hv s8 k8 => ?_) fun b H8 hb s8 hbl => ?_
  · obtain ⟨p, hp, hpx⟩ : ∃ p, rs[i]? = some p ∧ v = .ref p.1 := by
      rw [List.getElem?_map] at hv
      cases e : rs[i]? with
      | none => rw [e] at hv; cases hv
      | some p => rw [e] at hv; exact ⟨p, rfl, (Option.some.inj hv).symm⟩
    subst hpx
    have hm := List.mem_of_getElem? hp
    have hgd : (rs.map (·.2)).getD i [] = p.2 := by rw [List.getD_eq_getElem?_getD, List.getElem?_map, hp]; rfl
    rw [hgd] at k8
    have hpl := (hrw p hm).1
    refine ⟨rfl, ?_⟩
    refine tcompL (K := K) (gv_var (by rfl)) (SqL.of ((s7.trans s8) _ _ (RT6.rows p hm).2.2)) fun H9 s9 hq9 => ?_
    refine comp_list_map (onI fun m => .str (one1 (x.cps.getD m.toNat 0))) hq9 (small (by rw [List.length_map]; omega)) (fun j u HA RA hu sA kA => ?_) fun D HA hD sA hDl => ?_
    · obtain ⟨m, rfl, hmm, _⟩ := ints_at hu
      have := inx p hm m hmm
      exact gv_to (gv_ixS (gv_ixT (K := K) (gv_var (by rfl)) (fun _ _ => gv_c) ((s7.trans (s8.trans (s9.trans sA))).tup hr6) (atI_nat (j := 0) rfl)) (fun _ _ => gv_var (by rfl)) (small (by omega)) (atI_in this.1 this.2)) fun HB sB => kA HB sB
    · refine ⟨"", D, (p.2.map fun m => x.cps.getD m.toNat 0).map one1, rfl, rfl, SqL.of (by rw [hDl, map_onI, List.map_map, List.map_map]; rfl), by rw [len_ones, List.length_map, List.length_map]; show p.2.length + p.2.length * 0 ≤ 16777216; omega, ?_⟩
      exact k8 HA (s9.trans sA)
  rw [List.length_map, show (List.range rs.length).map (fun i => V.str (picOf x ((rs.map (·.2)).getD i []))) = ((rs.map (·.2)).map (picOf x)).map V.str by
    rw [List.map_map, map_getD' (V.str ∘ picOf x) (rs.map (·.2)) [], List.length_map]; rfl] at hbl
  generalize hp0 : (rs.map (·.2)).map (picOf x) = p0 at hbl
  have P0 : PicG hg wd p0 := by
    refine ⟨by rw [← hp0]; simp [hrl], fun q hq => ?_, fun q hq c hc => ?_⟩
    · rw [← hp0, List.map_map] at hq
      obtain ⟨p, hp, rfl⟩ := List.mem_map.mp hq
      exact (picOf_len x p.2).trans (hrw p hp).1
    · rw [← hp0, List.map_map] at hq
      obtain ⟨p, hp, rfl⟩ := List.mem_map.mp hq
      have hc' : c ∈ (picOf x p.2).cps.toList := hc
      rw [picOf_cps] at hc'
      obtain ⟨m, hm, rfl⟩ := List.mem_map.mp hc'
      have := inx p hp m hm
      refine G.ab _ ?_
      have hmx : m.toNat < x.cps.size := by
        have : x.length = x.cps.size := rfl
        omega
      rw [Array.getD_eq_getD_getElem?, Array.getElem?_eq_getElem hmx]
      simp
  have s68 := s7.trans s8
  have RT8 := RT6.same s68
  have hb6 : H6 b = none := s7.free hb
  have hbr : ∀ p ∈ rs, p.1 ≠ b := fun p hp z => by rw [← z, (RT6.rows p hp).2.2] at hb6; cases hb6
  have here8 : Here K H8 a ns r6 x ts6 b p0 := ⟨(s06.trans s68).seq hS, ⟨T6, s68.tup hr6, hT6.same s68⟩, hbl⟩
  refine rq_set (gv_mix (hS) hl (s06.trans s68) (ga_cons (gv_var (by rfl)) fun _ _ => ga_1 gv_c)) fun H9 s9 => ?_
  generalize mix ns 221 = num
  have here9 := here8.same s9
  have RT9 := RT8.same s9
  have s09 := (s06.trans s68).trans s9
  have hT9 := hT6.same (s68.trans s9)
  have hr9 := (s68.trans s9).tup hr6
  clear hbl here8 RT8
  refine rq_ifJ (R := fun σ H => ∃ (e5 e8 : Option V) (rs2 : List (Addr × List Int)), σ = [some (.ref a), some (.ref r6), some (.int (hg : Int)), some (.int (wd : Int)), some (.ref F), e5, some (.ref b), some (.int num), e8, none, none, none, none] ∧ Here K H a ns r6 x ts6 b p0 ∧ RowsT H4 H F rs2 ∧ rs2.length = hg ∧ ∀ p ∈ rs2, p.2.length = wd)
    (gt_test (gv_eqI (gv_iic (gv_var (by rfl)) (fun _ _ => gv_c) (by decide)) (fun _ _ => gv_c) (by rfl))) (fun _ HA sA nx hnx => ?_) (fun _ HA sA => ⟨_, _, rs, rfl, here9.same sA, RT9.same sA, hrl, fun p hp => (hrw p hp).1⟩) ?_
  · have s0A := s09.trans sA
    have RTA := RT9.same sA
    have modN : ∀ (z : Int) (c : Nat), 1 ≤ c → ∃ k : Nat, z % (c : Int) = (k : Int) ∧ k < c := fun z c hc => ⟨(z % (c : Int)).toNat, by
      have := Int.emod_nonneg z (show (c : Int) ≠ 0 by omega)
      omega, by
      have := Int.emod_lt_of_pos z (show (0 : Int) < c by omega)
      omega⟩
    obtain ⟨yy, hyy, hyl⟩ := modN (num / 8) hg hg1
    obtain ⟨xx, hxx, hxl⟩ := modN (num / 64) wd wd1
    refine rq_set (gv_eq (gv_iic (gv_iic (gv_var (by rfl)) (fun _ _ => gv_c) ⟨by decide, by decide⟩) (fun _ _ => gv_var (by rfl)) (by show (0 : Int) < hg; omega)) (y := .int (yy : Int)) (congrArg V.int hyy)) fun HB sB => ?_
    refine rq_set (gv_eq (gv_iic (gv_iic (gv_var (by rfl)) (fun _ _ => gv_c) ⟨by decide, by decide⟩) (fun _ _ => gv_var (by rfl)) (by show (0 : Int) < wd; omega)) (y := .int (xx : Int)) (congrArg V.int hxx)) fun HC sC => ?_
    have sAC := sB.trans sC
    have hy : yy < rs.length := by omega
    generalize hpe : rs[yy] = p
    have hpm : p ∈ rs := by rw [← hpe]; exact List.getElem_mem hy
    have hpy : (rs.map rv)[yy]? = some (.ref p.1) := by rw [List.getElem?_map, List.getElem?_eq_getElem hy, hpe]; rfl
    have hpl : xx < p.2.length := by rw [(hrw p hpm).1]; exact hxl
    have cell : ∀ {σ : L2.St} {Hx : Hp}, σ[4]? = some (some (V.ref F)) → σ[5]? = some (some (V.int (yy : Int))) → σ[8]? = some (some (V.int (xx : Int))) → Same HA Hx → Gv (tOp (rIxL K) (tOp (rIxL K) (tVar 4) (tVar 5)) (tVar 8)) σ Hx (.int (p.2.getD xx 0)) := fun h4 h5 h8 sx =>
      gv_ixL (K := K) (gv_ixL (K := K) (gv_var h4) (fun _ _ => gv_var h5) (SqL.of (sx _ _ RTA.at_)) (atI_nat hpy)) (fun _ _ => gv_var h8) (SqL.of (sx _ _ (RTA.rows p hpm).2.2)) (atI_ints hpl)
    have lenx : ∀ {σ : L2.St} {Hx : Hp}, σ[1]? = some (some (V.ref r6)) → Same HA Hx → Gv (tCB (fun xs H Q => ∃ x n, xs = [x] ∧ LenV K x H n ∧ Q (.int n) H) (tCons (tOp (rIxT K) (tVar 1) (tC (V.int 0))) tNil)) σ Hx (.int x.length) := fun h1 sx =>
      gv_lenS (K := K) (ga_1 (gv_ixT (K := K) (gv_var h1) (fun _ _ => gv_c) ((sA.trans sx).tup hr9) (atI_nat (j := 0) rfl))) (small (by omega))
    obtain ⟨kk3, hk3, hk3l⟩ := modN (num / 512) 3 (by decide)
    obtain ⟨val, hval⟩ : ∃ val : Int, atI [V.int (-1), .int x.length, .int ((p.2.getD xx 0 + 1) % x.length)] (kk3 : Int) = some (.int val) := by
      rcases (show kk3 = 0 ∨ kk3 = 1 ∨ kk3 = 2 by omega) with e | e | e <;> subst e
      · exact ⟨_, rfl⟩
      · exact ⟨_, rfl⟩
      · exact ⟨_, rfl⟩
    refine (gv_ixN (K := K) (xs := [V.int (-1), .int x.length, .int ((p.2.getD xx 0 + 1) % x.length)]) (i := (kk3 : Int)) (gn_lst (ga_cons (gv_neg gv_c) fun HD sD => ga_cons (lenx rfl (sAC.trans sD)) fun HE sE => ga_1 (gv_iic (gv_ii (cell rfl rfl rfl (sAC.trans (sD.trans sE))) fun _ _ => gv_c) (fun HG sG => lenx rfl (sAC.trans (sD.trans (sE.trans sG)))) (by show (0 : Int) < x.length; omega))) (by show 3 ≤ sizeLine; decide)) (fun _ _ => gv_eq (gv_iic (gv_iic (gv_var (by rfl)) (fun _ _ => gv_c) ⟨by decide, by decide⟩) (fun _ _ => gv_c) (by decide)) (congrArg V.int hk3)) hval) _ fun HD sD => ?_
    have sAD := sAC.trans sD
    refine (gv_ixL (K := K) (gv_var (by rfl)) (fun _ _ => gv_var (by rfl)) (SqL.of (sAD _ _ RTA.at_)) (atI_nat hpy)) _ fun HE sE => (gv_var (by rfl)) _ fun HG sG => ?_
    have sAG := sAD.trans (sE.trans sG)
    have RTG := RTA.same sAG
    obtain ⟨q1, q2, q3⟩ := RTG.rows p hpm
    have h9G := sA.trans sAG
    refine ⟨p.1, p.2.map V.int, (xx : Int), xx, rfl, rfl, q3, ?_, hnx _ _ ⟨_, _, rs.set yy (p.1, p.2.set xx val), rfl, ⟨?_, ⟨T6, sqT_put (h9G.tup hr9) q3, ?_⟩, ?_⟩, ⟨?_, RTG.newF, fun q hq => ?_, ?_⟩, by simp [hrl], fun q hq => ?_⟩⟩
    · unfold ixN
      rw [if_pos (by omega), if_pos (by rw [List.length_map]; omega)]
      rfl
    · exact ((s0A.trans sAG).put (s04.free q1) _).seq hS
    · obtain ⟨qs, g1, g2, g3⟩ := hT9.same h9G
      exact ⟨qs, by rw [upd_ne (Ne.symm (hTr6 p hpm))]; exact g1, fun q hq => sqT_put (g2 q hq) q3, g3⟩
    · rw [upd_ne (Ne.symm (hbr p hpm))]
      exact h9G _ _ here9.pic
    · rw [upd_ne (Ne.symm q2), RTG.at_, List.map_set]
      congr 2
      have e : (rs.map rv).set yy (.ref p.1) = rs.map rv := by
        refine List.ext_getElem? fun j => ?_
        rw [List.getElem?_set]
        split
        · rename_i e; subst e; rw [if_pos (by rw [List.length_map]; exact hy)]; exact hpy.symm
        · rfl
      exact e.symm
    · obtain ⟨j, hj, e⟩ := List.mem_iff_getElem.mp hq
      rw [List.length_set] at hj
      rw [List.getElem_set] at e
      split at e
      · subst e
        exact ⟨q1, q2, by rw [upd_same, List.map_set]⟩
      · rename_i hne
        have hqm : q ∈ rs := by rw [← e]; exact List.getElem_mem hj
        obtain ⟨z1, z2, z3⟩ := RTG.rows q hqm
        refine ⟨z1, z2, ?_⟩
        rw [upd_ne (fun z => hne ?_)]
        · exact z3
        · have h1 : (rs.map (·.1))[j]'(by rw [List.length_map]; exact hj) = (rs.map (·.1))[yy]'(by rw [List.length_map]; exact hy) := by
            rw [List.getElem_map, List.getElem_map, hpe, e]
            exact z
          rcases Nat.lt_trichotomy j yy with o | o | o
          · exact absurd h1 (List.pairwise_iff_getElem.mp RT.nd j yy (by rw [List.length_map]; exact hj) (by rw [List.length_map]; exact hy) o)
          · exact o.symm
          · exact absurd h1.symm (List.pairwise_iff_getElem.mp RT.nd yy j (by rw [List.length_map]; exact hy) (by rw [List.length_map]; exact hj) o)
    · have e : (rs.set yy (p.1, p.2.set xx val)).map (·.1) = rs.map (·.1) := by
        rw [List.map_set]
        refine List.ext_getElem? fun j => ?_
        rw [List.getElem?_set]
        split
        · rename_i e; subst e; rw [if_pos (by rw [List.length_map]; exact hy), List.getElem?_map, List.getElem?_eq_getElem hy, hpe]; rfl
        · rfl
      rw [e]
      exact RT.nd
    · rcases List.mem_or_eq_of_mem_set hq with z | z
      · exact (hrw q z).1
      · rw [z]; show (p.2.set xx val).length = wd; rw [List.length_set]; exact (hrw p hpm).1
  clear here9 RT9 hT9 hr9 RT6 hT6 hr6 hbr hTr6
  rintro σ HA ⟨e5, e8, rs2, rfl, hereA, RTA, hrl2, hrw2⟩
  have rows2 : ∀ {Hx : Hp}, Same HA Hx → ∀ p ∈ rs2, Hx p.1 = some (.lst (p.2.map V.int)) ∧ p.2.length ≤ 8 := fun sx p hp => ⟨sx _ _ (RTA.rows p hp).2.2, by rw [hrw2 p hp]; omega⟩
  refine rq_ifSetH (n := 4) (v0 := .ref F) (Pr K) (gt_test (gv_eqI (gv_iic (gv_var (by rfl)) (fun _ _ => gv_c) (by decide)) (fun _ _ => gv_c) (by rfl))) (by rfl) (fun HB sB => ⟨F, rs2.map (·.2), rfl, ((RTA.same sB).rowsAt), by rw [List.length_map]; omega, fun q hq => by
      obtain ⟨p, hp, rfl⟩ := List.mem_map.mp hq
      rw [hrw2 p hp]; omega⟩) (fun _ HB sB QB kB => ?_) fun v HB hvB sB => ?_
  · have hi3 : 0 ≤ num / 8 % 3 ∧ num / 8 % 3 < 3 := ⟨Int.emod_nonneg _ (by decide), Int.emod_lt_of_pos _ (by decide)⟩
    obtain ⟨qs, hqe, hqm, hql⟩ := cut_map rv rs2 none (some (-1))
    obtain ⟨qs1, hqe1, hqm1, hql1⟩ := cut_map rv rs2 none (some 1)
    have hq1 : qs1.length ≤ 1 := by
      have := congrArg List.length hqe1
      rw [List.length_map, show (1 : Int) = ((1 : Nat) : Int) from rfl, take_map, List.length_map, List.length_take] at this
      omega
    refine gp_ix (K := K) (n := 3) (i := num / 8 % 3) (pr_stay (K := K)) (glp_lst pr_stay (gap_cons pr_stay (gp_rowsN (K := K) (rs := qs) (gn_slHi (K := K) (i := -1) (gv_var (by rfl)) (SqL.of (sB _ _ RTA.at_)) fun _ _ => gv_neg gv_c) hqe (fun p hp => rows2 sB p (hqm p hp)) (by omega)) fun HC sC =>
        gap_cons pr_stay (fun R r => ?_) fun HD sD =>
        gap_cons pr_stay (gp_rowsN (K := K) (rs := rs2 ++ qs1) (gn_cat (gv_var (by rfl)) ((sB.trans (sC.trans sD)) _ _ RTA.at_) (fun HE sE => gn_slHi (K := K) (i := 1) (gv_var (by rfl)) (SqL.of ((sB.trans (sC.trans (sD.trans sE))) _ _ RTA.at_)) fun _ _ => gv_c) (small (by rw [hqe1]; simp; omega))) (by rw [hqe1, List.map_append]) (fun p hp => rows2 (sB.trans (sC.trans sD)) p (by rcases List.mem_append.mp hp with z | z; exact z; exact hqm1 p z)) (by rw [List.length_append]; omega)) fun _ _ => gap_nil) (by show 3 ≤ sizeLine; decide))
      (fun _ _ => gv_iic (gv_iic (gv_var (by rfl)) (fun _ _ => gv_c) ⟨by decide, by decide⟩) (fun _ _ => gv_c) (by decide)) hi3.1 hi3.2 _ fun v HC sC pv => kB v HC pv sC
    have sAC := sB.trans sC
    refine tcompL (K := K) (gv_var (by rfl)) (SqL.of (sAC _ _ RTA.at_)) fun HD sD hqD => ?_
    refine comp_list hqD (small (by rw [List.length_map]; omega)) (fun i ys H => ∃ rs3 : List (Addr × List Int), ys = rs3.map rv ∧ rs3.length = i ∧ ∀ p ∈ rs3, H p.1 = some (.lst (p.2.map V.int)) ∧ p.2.length ≤ 8) (fun D hD => ⟨[], rfl, rfl, fun p hp => absurd hp (by simp)⟩) (fun D i u ys H R1 R0 hD hu sm hDl hP k1 k0 => ?_) fun D ys H hD sm hDl hyl hP => ?_
    · obtain ⟨p, hp, hpx⟩ : ∃ p, rs2[i]? = some p ∧ u = .ref p.1 := by
        rw [List.getElem?_map] at hu
        cases e : rs2[i]? with
        | none => rw [e] at hu; cases hu
        | some p => rw [e] at hu; exact ⟨p, rfl, (Option.some.inj hu).symm⟩
      subst hpx
      have hpm := List.mem_of_getElem? hp
      obtain ⟨rs3, rfl, hl3, hr3⟩ := hP
      show _ 
      refine gn_cat (xs := p.2.map V.int) (ys := [.int 0]) (gv_var (by rfl)) ((rows2 (sAC.trans (sD.trans sm)) p hpm).1) (fun HE sE => gn_lst (ga_1 gv_c) (by show 1 ≤ sizeLine; decide)) (small (by rw [List.length_map, hrw2 p hpm]; simp; omega)) _ fun q HE hq sE hqE => ?_
      have neD : q ≠ D := fun z => by rw [z, hDl] at hq; cases hq
      refine k1 _ HE sE ⟨rs3 ++ [(q, p.2 ++ [0])], by rw [List.map_append]; rfl, by simp [hl3], fun z hz => ?_⟩
      rcases List.mem_append.mp hz with y | y
      · obtain ⟨g1, g2⟩ := hr3 z y
        have nz : z.1 ≠ D := fun e => by
          rw [e, hDl] at g1
          injection g1 with g1
          injection g1 with g1
          have hm : rv z ∈ rs3.map rv := List.mem_map.mpr ⟨z, y, rfl⟩
          rw [g1] at hm
          obtain ⟨_, _, hm⟩ := List.mem_map.mp hm
          cases hm
        exact ⟨by rw [upd_ne nz]; exact sE _ _ g1, g2⟩
      · rw [List.mem_singleton.mp y]
        refine ⟨by rw [upd_ne neD, hqE]; simp, ?_⟩
        show (p.2 ++ [0]).length ≤ 8
        rw [List.length_append, hrw2 p hpm]
        simp
        omega
    · obtain ⟨rs3, rfl, hl3, hr3⟩ := hP
      rw [List.length_map] at hl3
      exact r _ H (sD.trans sm) ⟨D, rs3.map (·.2), rfl, ⟨rs3, SqL.of hDl, fun p hp => (hr3 p hp).1, rfl⟩, by rw [List.length_map]; omega, fun q hq => by
        obtain ⟨p', hp', rfl⟩ := List.mem_map.mp hq
        exact (hr3 p' hp').2⟩
  obtain ⟨F2, rows, rfl, hRows, hrows8, hrowl8⟩ := hvB
  have hereB := hereA.same sB
  clear hereA RTA rows2
  refine rq_ifSetH (n := 6) (v0 := .ref b) (fun v H => ∃ b2 p, v = .ref b2 ∧ H b2 = some (.lst (p.map V.str)) ∧ PicG hg wd p) (gt_test (gv_eqI (gv_iic (gv_var (by rfl)) (fun _ _ => gv_c) (by decide)) (fun _ _ => gv_c) (by rfl))) (by rfl) (fun HC sC => ⟨b, p0, rfl, sC _ _ hereB.pic, P0⟩) (fun _ HC sC QC kC => ?_) fun v HC hvC sC => ?_
  · have hl0 := P0.len
    refine gn_catN (xs := (p0.take (p0.length - 1)).map V.str) (ys := [.str (repS ⟨#[98]⟩ wd)]) (gn_eq (gn_slHi (K := K) (i := -1) (gv_var (by rfl)) (SqL.of (sC _ _ hereB.pic)) fun _ _ => gv_neg gv_c) (cut_init V.str p0)) (fun HD sD => gn_lst (ga_1 (gv_mulS gv_c (fun _ _ => gv_var (by rfl)) wd1 (by omega))) (by show 1 ≤ sizeLine; decide)) (small (by simp; omega)) _ fun q HD hq sD hqD => kC _ _ ⟨q, p0.take (p0.length - 1) ++ [repS ⟨#[98]⟩ wd], rfl, by rw [hqD, List.map_append]; rfl, ⟨by simp; omega, fun z hz => ?_, fun z hz c hc => ?_⟩⟩ sD
    · rcases List.mem_append.mp hz with y | y
      · exact P0.row z (List.mem_of_mem_take y)
      · rw [List.mem_singleton.mp y]; exact repS_len 98 wd
    · rcases List.mem_append.mp hz with y | y
      · exact P0.ab z (List.mem_of_mem_take y) c hc
      · rw [List.mem_singleton.mp y, repS_one] at hc
        exact .inr (List.eq_of_mem_replicate hc)
  obtain ⟨b2, p, rfl, hpC, PG⟩ := hvC
  have hereC : Here K HC a ns r6 x ts6 b2 p := ⟨sC.seq hereB.scr, hereB.sys.same sC, hpC⟩
  have hRC := hRows.same sC
  have hpicok := pic_ok PG hg1 hg3 wd1 wd3
  have hsysok : sysB x ts6 = true := sysG_ok G
  clear hereB P0 hpC hRows
  obtain ⟨rs4, hq4, hrs4, rfl⟩ := id hRC
  rw [List.length_map] at hrows8
  generalize hrows : rs4.map (·.2) = rows at *
  have hpl := PG.len
  have len4 : ∀ (i : Nat) (v : V), (rs4.map rv)[i]? = some v → ∃ c, v = .ref c ∧ HC c = some (.lst ((rows.getD i []).map V.int)) ∧ i < rows.length := fun i v hv => by
    rw [List.getElem?_map] at hv
    cases e : rs4[i]? with
    | none => rw [e] at hv; cases hv
    | some q =>
      rw [e] at hv
      refine ⟨q.1, (Option.some.inj hv).symm, ?_, ?_⟩
      · rw [show rows.getD i [] = q.2 by rw [← hrows, List.getD_eq_getElem?_getD, List.getElem?_map, e]; rfl]
        exact hrs4 q (List.mem_of_getElem? e)
      · rw [← hrows, List.length_map]
        exact (List.getElem?_eq_some_iff.mp e).1
  have hrl4 : rows.length = rs4.length := by rw [← hrows, List.length_map]
  have ints1 : (List.range (rs4.map rv).length).map (fun i => V.int ((rows.getD i []).length : Int)) = (rows.map fun q => (q.length : Int)).map V.int := by
    rw [List.length_map, ← hrl4, List.map_map]
    exact (map_getD' (fun q : List Int => V.int (q.length : Int)) rows []).symm
  have ints2 : (List.range (p.map V.str).length).map (fun i => V.int ((p.getD i ⟨#[]⟩).length : Int)) = (p.map fun q => (q.length : Int)).map V.int := by
    rw [List.length_map, List.map_map]
    exact (map_getD' (fun q : Str => V.int (q.length : Int)) p ⟨#[]⟩).symm
  refine rq_set' (tcompL (K := K) (gv_var (by rfl)) hq4 fun HD sD hqD => ?_)
  refine comp_list_idx (fun i => .int ((rows.getD i []).length : Int)) hqD (small (by rw [List.length_map]; omega)) (fun i v HE RE hv sE kE => ?_) fun D1 HE hD1 sE hDl1 => ?_
  · obtain ⟨c, rfl, hc, _⟩ := len4 i v hv
    refine gv_to (gv_eq (gv_lenL (K := K) (ga_1 (gv_var (by rfl))) (SqL.of ((sD.trans sE) _ _ hc))) (by rw [List.length_map])) fun HG sG => kE HG sG
  rw [ints1] at hDl1
  refine tcompL (K := K) (gv_var (by rfl)) (SqL.of ((sD.trans sE) _ _ hereC.pic)) fun HG sG hqG => ?_
  refine comp_list_idx (fun i => .int ((p.getD i ⟨#[]⟩).length : Int)) hqG (small (by rw [List.length_map]; omega)) (fun i v HI RI hv sI kI => ?_) fun D2 HI hD2 sI hDl2 => ?_
  · obtain ⟨q, rfl, hqm, hqi⟩ := strs_at hv
    have e : p.getD i ⟨#[]⟩ = q := by rw [List.getD_eq_getElem?_getD, hqi]; rfl
    rw [e] at kI
    exact gv_to (gv_lenS (K := K) (ga_1 (gv_var (by rfl))) (small (by rw [PG.row q hqm]; omega))) fun HJ sJ => kI HJ sJ
  rw [ints2] at hDl2
  refine ⟨lstI (rows.map fun q => (q.length : Int)), lstI (p.map fun q => (q.length : Int)), fair_ints _ _, rep_lstI.mpr ⟨D1, rfl, SqL.of ((sG.trans sI) _ _ hDl1)⟩, rep_lstI.mpr ⟨D2, rfl, SqL.of hDl2⟩, ?_⟩
  have ed0 : (false ^^ PyData.eqv (lstI (rows.map fun q => (q.length : Int))).py (lstI (p.map fun q => (q.length : Int))).py) = decide (rows.map List.length = p.map Str.length) := by
    rw [eqv_lists, Bool.false_xor]
    have inj : ∀ (l m : List Nat), l.map (fun n : Nat => (n : Int)) = m.map (fun n : Nat => (n : Int)) ↔ l = m := fun l m => ⟨fun h => by
      have := congrArg (List.map Int.toNat) h
      simpa [Function.comp_def] using this, fun h => by rw [h]⟩
    have := inj (rows.map List.length) (p.map Str.length)
    rw [List.map_map, List.map_map] at this
    exact decide_eq_decide.mpr this
  rw [ed0]
  have hereI := hereC.same (sD.trans (sE.trans (sG.trans sI)))
  have hRI := hRC.same (sD.trans (sE.trans (sG.trans sI)))
  generalize hd0 : decide (rows.map List.length = p.map Str.length) = d0
  clear hereC hRC hDl1 hDl2 len4 hq4 hrs4 hqD hqG ints1 ints2 ed0
  obtain ⟨T7, hr7, hT7⟩ := id hereI.sys
  have cellF : ∀ y i, Bool := fun y i => standB x ((rows.getD y []).getD i 0) (sgn (p.getD y ⟨#[]⟩) i)
  have shape : d0 = true → rows.length = hg ∧ ∀ y, y < hg → (rows.getD y []).length = wd := fun e => by
    have h1 : rows.map List.length = p.map Str.length := of_decide_eq_true (hd0.trans e)
    have h2 : rows.length = hg := by
      have := congrArg List.length h1
      simpa [hpl] using this
    refine ⟨h2, fun y hy => ?_⟩
    have e3 := congrArg (fun l => l[y]?) h1
    simp only [List.getElem?_map] at e3
    rw [List.getElem?_eq_getElem (by omega), List.getElem?_eq_getElem (by omega)] at e3
    have e' : rows[y].length = p[y].length := by simpa using e3
    rw [List.getD_eq_getElem?_getD, List.getElem?_eq_getElem (by omega)]
    show rows[y].length = wd
    rw [e']
    exact PG.row _ (List.getElem_mem (by omega))
  obtain ⟨rs5, hq5, hrs5, hrows5⟩ := id hRI
  have rowAt : ∀ y, y < rows.length → ∃ c, (rs5.map rv)[y]? = some (.ref c) ∧ HI c = some (.lst ((rows.getD y []).map V.int)) := fun y hy => by
    have hy5 : y < rs5.length := by rw [← hrows5, List.length_map] at hy; exact hy
    refine ⟨rs5[y].1, by rw [List.getElem?_map, List.getElem?_eq_getElem hy5]; rfl, ?_⟩
    rw [hrs5 _ (List.getElem_mem hy5), ← hrows5, List.getD_eq_getElem?_getD, List.getElem?_map, List.getElem?_eq_getElem hy5]
    rfl
  refine rq_forR (n := if d0 = true then hg else 0) (ga_1 (gv_eq (gv_iic (j := if d0 = true then 1 else 0) (gv_var (by rfl)) (fun HJ sJ R r => (ga_1 (gv_var (by rfl))) _ fun HL sL => .inr ⟨d0, rfl, r HL sL⟩) ?_) ?_)) (by split <;> omega)
    (fun y σ H => ∃ e5 e8 : Option V, σ = [some (.ref a), some (.ref r6), some (.int (hg : Int)), some (.int (wd : Int)), some (.ref F2), e5, some (.ref b2), some (.int num), e8, some (.bl (d0 && (List.range y).all fun y => (List.range wd).all fun i => standB x ((rows.getD y []).getD i 0) (sgn (p.getD y ⟨#[]⟩) i))), none, none, none] ∧ Same HI H)
    (fun HJ sJ => ⟨e5, e8, by first | (simp; done) | (simp; rfl) | rfl, sJ⟩) ?_ ?_
  · cases d0
    · exact .inr (by first | exact ⟨by decide, by decide⟩ | decide)
    · exact .inr (by first | exact ⟨by decide, by decide⟩ | decide)
  · cases d0 <;> simp
  · rintro y σ HJ hy ⟨e5', e8', rfl, sJ⟩
    have hd : d0 = true := by
      cases hd : d0 with
      | true => rfl
      | false => rw [hd] at hy; simp at hy
    have hyh : y < hg := by rw [if_pos hd] at hy; exact hy
    obtain ⟨sh1, sh2⟩ := shape hd
    obtain ⟨c, hc1, hc2⟩ := rowAt y (by omega)
    have hyp : y < p.length := by omega
    have hpy : (p.map V.str)[y]? = some (.str (p.getD y ⟨#[]⟩)) := by rw [List.getElem?_map, List.getD_eq_getElem?_getD, List.getElem?_eq_getElem hyp]; rfl
    have hpyl : (p.getD y ⟨#[]⟩).length = wd := PG.row _ (getD_mem hyp)
    have hrow := sh2 y hyh
    refine rs_forR (n := wd) (ga_1 (gv_var (by rfl))) (by omega)
      (fun j σ H => ∃ e8 : Option V, σ = [some (.ref a), some (.ref r6), some (.int (hg : Int)), some (.int (wd : Int)), some (.ref F2), some (.int (y : Int)), some (.ref b2), some (.int num), e8, some (.bl ((d0 && (List.range y).all fun y => (List.range wd).all fun i => standB x ((rows.getD y []).getD i 0) (sgn (p.getD y ⟨#[]⟩) i)) && (List.range j).all fun i => standB x ((rows.getD y []).getD i 0) (sgn (p.getD y ⟨#[]⟩) i))), none, none, none] ∧ Same HI H)
      (fun HL sL => ⟨e8', by first | (simp; done) | (simp; rfl) | rfl, sJ.trans sL⟩) ?_ ?_
    · rintro j σ HL hj ⟨e8'', rfl, sL⟩
      have cell : ∀ {σ : L2.St} {Hx : Hp}, σ[4]? = some (some (V.ref F2)) → σ[5]? = some (some (V.int (y : Int))) → σ[8]? = some (some (V.int (j : Int))) → Same HI Hx → Gv (tOp (rIxL K) (tOp (rIxL K) (tVar 4) (tVar 5)) (tVar 8)) σ Hx (.int ((rows.getD y []).getD j 0)) := fun h4 h5 h8 sx =>
        gv_ixL (K := K) (gv_ixL (K := K) (gv_var h4) (fun _ _ => gv_var h5) (sx.seq hq5) (atI_nat hc1)) (fun _ _ => gv_var h8) (SqL.of (sx _ _ hc2)) (atI_ints (by omega))
      refine rs_set (gv_and (gv_var (by rfl)) fun _ HM sM => gv_and (gv_chain gv_c (fun HN sN => cell rfl rfl rfl (sL.trans (sM.trans sN))) fun HN sN => gv_lenS (K := K) (ga_1 (gv_ixT (K := K) (gv_var (by rfl)) (fun _ _ => gv_c) ((sL.trans (sM.trans sN)).tup hr7) (atI_nat (j := 0) rfl))) (small (by omega))) fun cc HN sN => gv_eqI (gv_ixS (gv_ixT (K := K) (gv_var (by rfl)) (fun _ _ => gv_c) ((sL.trans (sM.trans sN)).tup hr7) (atI_nat (j := 0) rfl)) (fun HO sO => cell rfl rfl rfl (sL.trans (sM.trans (sN.trans sO)))) (small (by omega)) (atI_in (of_decide_eq_true ((Bool.and_eq_true_iff.mp cc).1)) (of_decide_eq_true ((Bool.and_eq_true_iff.mp cc).2)))) (fun HO sO => gv_ixS (gv_ixL (K := K) (gv_var (by rfl)) (fun _ _ => gv_var (by rfl)) (SqL.of ((sL.trans (sM.trans (sN.trans sO))) _ _ hereI.pic)) (atI_nat hpy)) (fun _ _ => gv_var (by rfl)) (small (by omega)) (c := (p.getD y ⟨#[]⟩).cps.getD j 0) ?_) (by rfl)) fun HM sM => ⟨some (.int (j : Int)), ?_, sL.trans sM⟩
      · have := atI_in (x := p.getD y ⟨#[]⟩) (m := (j : Int)) (by omega) (by omega)
        rwa [Int.toNat_natCast] at this
      · have ea : ((List.range (j + 1)).all fun i => standB x ((rows.getD y []).getD i 0) (sgn (p.getD y ⟨#[]⟩) i)) = (((List.range j).all fun i => standB x ((rows.getD y []).getD i 0) (sgn (p.getD y ⟨#[]⟩) i)) && standB x ((rows.getD y []).getD j 0) (sgn (p.getD y ⟨#[]⟩) j)) := by
          rw [List.range_succ, List.all_append]
          simp
        rw [ea, ← Bool.and_assoc (d0 && (List.range y).all fun y => (List.range wd).all fun i => standB x ((rows.getD y []).getD i 0) (sgn (p.getD y ⟨#[]⟩) i))]
        rfl
    · rintro σ HL ⟨e8'', rfl, sL⟩
      refine ⟨some (.int (y : Int)), e8'', ?_, sL⟩
      rw [List.range_succ, List.all_append, List.all_cons, List.all_nil, Bool.and_true, ← Bool.and_assoc]
  · rintro σ HJ ⟨e5', e8', rfl, sJ⟩
    have edue : (d0 && (List.range (if d0 = true then hg else 0)).all fun y => (List.range wd).all fun i => standB x ((rows.getD y []).getD i 0) (sgn (p.getD y ⟨#[]⟩) i)) = fitB x p rows := by
      rw [← due_fit (x := x) (rows := rows) PG.row, hd0, hpl]
      cases d0 <;> simp
    rw [edue]
    obtain ⟨qs, hq1, hq2, hq3⟩ := id (hT7.same sJ)
    have hrJ := sJ.tup hr7
    refine rq_set (v := .bl (showB x ts6 p rows)) (gv_and (gv_var (by rfl)) fun c HK sK => (fun R r => ?_)) fun HK sK => ?_
    · obtain ⟨hne, hrect2, hlen2, hwid2⟩ := fit_rows c hpicok
      refine tcb1 (tcall (ga_1 (gv_var (by rfl))) fun HL sL => ⟨F2, rows, rfl, ?_, hne, hrect2, hlen2, hwid2, fun Z HM ws hZ sM hZM rZ => ⟨Z, rfl, ⟨_, SqL.of hZM⟩, ?_⟩⟩)
      · have hh := lists_reps (K := K) (H := HL) rs5 fun q hq => (sJ.trans (sK.trans sL)) _ _ (hrs5 q hq)
        rw [hrows5] at hh
        unfold Rep
        exact ⟨F2, _, rfl, (sJ.trans (sK.trans sL)).seq hq5, hh⟩
      have hwl : ws.length = (grid rows).length := by rw [Reps.length rZ, List.length_map]
      have hgl : (grid rows).length ≤ 1000 := by
        have := flat_len rows (rows.length + 1)
        have e : (grid rows).length = (rows.length + 1) * (wid rows + 1) := this
        have : (rows.length + 1) * (wid rows + 1) ≤ 21 * 21 := Nat.mul_le_mul (by omega) (by omega)
        omega
      refine comp_list_idx (fun i => .bl (decide ((grid rows).getD i [] ∈ ts6))) (SqL.of hZM) (small (by omega)) (fun i v HN RN hv sN kN => ?_) fun D3 HN hD3 sN hDN => ?_
      · have hi : i < (grid rows).length := by have := (List.getElem?_eq_some_iff.mp hv).1; omega
        obtain ⟨v', hv', hr'⟩ := Reps.get rZ i (tupI ((grid rows).getD i [])) (by rw [List.getElem?_map, List.getD_eq_getElem?_getD, List.getElem?_eq_getElem hi]; rfl)
        rw [hv] at hv'
        cases hv'
        obtain ⟨cc, rfl, hcc⟩ := rep_tupI.mp hr'
        have sJN := sK.trans (sL.trans (sM.trans sN))
        refine gv_to (gv_eq (gv_inT (K := K) (ps := qs) (gv_var (by rfl)) (fun HO sO => gv_ixT (K := K) (gv_var (by rfl)) (fun _ _ => gv_c) ((sJN.trans sO).tup hrJ) (atI_nat (j := 1) rfl)) ((hm_out.trans sN).tup hcc) (SqL.of (sJN _ _ hq1)) (fun q hq => sJN.tup (hq2 q hq))) (y := .bl (decide ((grid rows).getD i [] ∈ ts6))) ?_) fun HO sO => kN HO sO
        congr 1
        rw [← hq3, decide_eq_decide, List.mem_map]
      · refine ⟨D3, (List.range ws.length).map fun i => decide ((grid rows).getD i [] ∈ ts6), rfl, SqL.of (by rw [hDN, List.map_map]; rfl), ?_⟩
        have e : (((List.range ws.length).map fun i => decide ((grid rows).getD i [] ∈ ts6)).all fun b => b) = (grid rows).all fun t => decide (t ∈ ts6) := by
          rw [hwl]
          have := map_getD' (fun t : List Int => decide (t ∈ ts6)) (grid rows) []
          rw [← this, List.all_map]
          rfl
        rw [e]
        exact r _ (sL.trans (sM.trans sN))
    · have sIK := sJ.trans sK
      have hereK := hereI.same sIK
      have hRK := hRI.same sIK
      have hGm := G.most
      have hGf := G.few
      have hMild : Mild x ts6 := ⟨by omega, by omega, fun t ht => by rw [(G.ok t ht).1]; decide⟩
      have hSm : Sm p := ⟨by omega, fun q hq => by rw [PG.row q hq]; omega⟩
      have et1 : toldV 1 x ts6 p rows = .bl (showB x ts6 p rows) := by unfold toldV; rw [if_pos hsysok, if_neg (by decide), if_pos hpicok]
      have et0 : toldV 0 x ts6 p rows = .non := by unfold toldV; rw [if_pos hsysok, if_pos rfl]
      have hba : picOk [⟨#[97]⟩, ⟨#[]⟩] = false := by decide +kernel
      have et2 : toldV 1 x ts6 [⟨#[97]⟩, ⟨#[]⟩] rows = .str "picture" := by unfold toldV; rw [if_pos hsysok, if_neg (by decide), if_neg (by rw [hba]; decide)]
      clear hereI hRI hq1 hq2 hq3 hrJ hq5 hrs5 rowAt hr7 hT7 edue
      refine rq_set (v := .bl (showB x ts6 p rows)) (gv_eq (gv_told (n := 1) (ga_cons gv_c fun _ _ => ga_cons (gv_var (by rfl)) fun _ _ => ga_cons (gv_var (by rfl)) fun _ _ => ga_1 (gv_var (by rfl))) hereK.sys.at_ hMild (SqL.of hereK.pic) hSm hRK) et1) fun HL sL => ?_
      have hereL := hereK.same sL
      have hRL := hRK.same sL
      refine rq_if (b := false) (gt_eq (gt_or (gt_not (gt_test (gv_isiB (K := K) (ga_cons (gv_var (by rfl)) fun _ _ => ga_1 gv_c) hkt))) fun _ HM sM => gt_or (gt_test (gv_neI (gv_var (by rfl)) (fun _ _ => gv_var (by rfl)) (by rfl))) fun _ HN sN => gt_test (gv_eqG (K := K) (d := .str "picture") (e := .str "picture") (gv_eq (gv_toldN (n := 1) (p := [⟨#[97]⟩, ⟨#[]⟩]) gv_c (fun _ _ => gv_var (by rfl)) (fun HO sO => gn_lst (ga_cons gv_c fun _ _ => ga_1 gv_c) (by show 2 ≤ sizeLine; decide)) (fun _ _ => gv_var (by rfl)) (hereL.same (sM.trans sN)).sys.at_ hMild (by unfold Sm; decide) (hRL.same (sM.trans sN))) et2) (fun _ _ => gv_c) fair_w (fun _ => rep_str _) fun _ => rep_str _)) (by simp; rfl)) (fun z => absurd z (by decide)) fun _ HM sM => ?_
      have hereM := hereL.same sM
      have hRM := hRL.same sM
      obtain ⟨T8, hr8, hT8⟩ := id hereM.sys
      refine rq_if (b := decide (ts6 = [])) (gt_eq (gt_test (b := false ^^ PyData.eqv (Dt.lst (ts6.map tupI)).py (Dt.lst []).py) fun R r => (gv_ixT (K := K) (gv_var (by rfl)) (fun _ _ => gv_c) hr8 (atI_nat (j := 1) rfl)) _ fun HN sN => ⟨(by show 0 ≤ sizeLine; decide), fun q hq => ⟨_, _, fair_nil ts6, hT8.rep.same (sN.trans (Same.new hq _)), ?_, r _ (sN.trans (Same.new hq _))⟩⟩) (by rw [eqv_nil, Bool.false_xor])) (fun e HN sN => ?_) fun e HN sN => ?_
      · unfold Rep
        exact ⟨q, [], rfl, SqL.of upd_same, by unfold Reps; rfl⟩
      · refine rs_ret (v := .bl true) (gv_eq (gv_isN (gv_eq (gv_told (n := 0) (ga_cons gv_c fun _ _ => ga_cons (gv_var (by rfl)) fun _ _ => ga_cons (gv_var (by rfl)) fun _ _ => ga_1 (gv_var (by rfl))) (hereM.same sN).sys.at_ hMild (SqL.of (hereM.same sN).pic) hSm (hRM.same sN)) et0)) (by simp)) fun HO sO => kk HO
      have hne : ts6 ≠ [] := of_decide_eq_false e
      refine rq_set' (tcall (ga_cons (gv_var (by rfl)) fun HO sO => ga_1 (gv_mix hereM.scr hl (sN.trans sO) (ga_cons (gv_var (by rfl)) fun _ _ => ga_1 gv_c))) fun HO sO => ⟨r6, mix ns 222, x, ts6, rfl, (hereM.same (sN.trans sO)).sys, hGm, hne, by omega, fun t ht => (G.ok t ht).1, fun v HP sP hv => ?_⟩)
      obtain ⟨r9, x9, ts9, rfl, hr9, hm9⟩ := hv
      have sMP := sN.trans (sO.trans sP)
      have hereP := hereM.same sMP
      have hRP := hRM.same sMP
      refine rq_set (v := .bl (sysB x9 ts9)) (gv_call (ga_1 (gv_var (by rfl))) fun H' R s k => ⟨r9, x9, ts9, rfl, hr9.same s, hm9, k⟩) fun HR sR => ?_
      generalize hs9 : sysB x9 ts9 = s9
      have et9 : toldV 0 x9 ts9 p rows = if s9 = true then .non else .str "system" := by unfold toldV; rw [hs9]; cases s9 <;> rfl
      refine rq_if (b := false) (gt_eq (gt_test (gv_eqG (K := K) (d := if s9 = true then .non else .str "system") (e := if s9 = true then .non else .str "system") (gv_eq (gv_told (n := 0) (ga_cons gv_c fun _ _ => ga_cons (gv_var (by rfl)) fun _ _ => ga_cons (gv_var (by rfl)) fun _ _ => ga_1 (gv_var (by rfl))) (hr9.same sR) hm9 (SqL.of (hereP.same sR).pic) hSm (hRP.same sR)) et9) (fun HU sU => gv_if (v := if s9 = true then V.non else V.str "system") (p := s9) (gt_truB (K := K) (gv_var (by rfl))) (fun c _ _ => gv_eq gv_c (if_pos c).symm) fun c _ _ => gv_eq gv_c (if_neg (by rw [c]; decide)).symm) (by cases s9 <;> first | exact fair_w | exact ⟨rfl, rfl, by decide⟩) (fun _ => by cases s9 with | false => exact rep_str _ | true => exact rep_non) fun _ => by cases s9 with | false => exact rep_str _ | true => exact rep_non)) (by cases s9 <;> rfl)) (fun z => absurd z (by decide)) fun _ HU sU => ?_
      refine rs_ret (v := .bl true) (gv_eq (gv_or (p := s9) (q := true) (gv_var (by rfl)) fun c HV sV => gv_eq (gv_eqG (K := K) (d := .str "system") (e := .str "system") (gv_eq (gv_toldN (n := 1) (p := [⟨#[101]⟩]) gv_c (fun _ _ => gv_var (by rfl)) (fun HO sO => gn_lst (ga_1 gv_c) (by show 1 ≤ sizeLine; decide)) (fun _ _ => gv_var (by rfl)) (hr9.same (sR.trans (sU.trans sV))) hm9 (by unfold Sm; decide) (hRP.same (sR.trans (sU.trans sV)))) (by unfold toldV; rw [if_neg (by rw [hs9, c]; decide)])) (fun _ _ => gv_c) fair_w (fun _ => rep_str _) fun _ => rep_str _) (by rfl)) (by cases s9 <;> rfl)) fun HW sW => kk HW
end
end K02

namespace K02
open PySem PySem.Spec PyProof.Rows L2
theorem txt_mk {K : PySem.W.Frag} {h : Heap} {mg : Str → Option Value} {fa : Addr} (X : K.In h) (G : h.Ns mainGlobals mg) (hfa : mg "law" = some (.ref fa))
    {f_are_letters : Addr} {od_are_letters an_are_letters : Option Addr} {sl_are_letters : Array (Option Value)} {oc_are_letters kV_are_letters dc_are_letters pm_are_letters cd_are_letters ct_are_letters : Value}
    {f_is_picture : Addr} {od_is_picture an_is_picture : Option Addr} {sl_is_picture : Array (Option Value)} {oc_is_picture kV_is_picture dc_is_picture pm_is_picture cd_is_picture ct_is_picture : Value}
    {f_look_picture : Addr} {od_look_picture an_look_picture : Option Addr} {sl_look_picture : Array (Option Value)} {oc_look_picture kV_look_picture dc_look_picture pm_look_picture cd_look_picture ct_look_picture : Value}
    {f_are_fields : Addr} {od_are_fields an_are_fields : Option Addr} {sl_are_fields : Array (Option Value)} {oc_are_fields kV_are_fields dc_are_fields pm_are_fields cd_are_fields ct_are_fields : Value}
    {f_rises : Addr} {od_rises an_rises : Option Addr} {sl_rises : Array (Option Value)} {oc_rises kV_rises dc_rises pm_rises cd_rises ct_rises : Value}
    {f_is_system : Addr} {od_is_system an_is_system : Option Addr} {sl_is_system : Array (Option Value)} {oc_is_system kV_is_system dc_is_system pm_is_system cd_is_system ct_is_system : Value}
    {f_look_system : Addr} {od_look_system an_look_system : Option Addr} {sl_look_system : Array (Option Value)} {oc_look_system kV_look_system dc_look_system pm_look_system cd_look_system ct_look_system : Value}
    {f_bordered : Addr} {od_bordered an_bordered : Option Addr} {sl_bordered : Array (Option Value)} {oc_bordered kV_bordered dc_bordered pm_bordered cd_bordered ct_bordered : Value}
    {f_tiles_of : Addr} {od_tiles_of an_tiles_of : Option Addr} {sl_tiles_of : Array (Option Value)} {oc_tiles_of kV_tiles_of dc_tiles_of pm_tiles_of cd_tiles_of ct_tiles_of : Value}
    {f_stands_for : Addr} {od_stands_for an_stands_for : Option Addr} {sl_stands_for : Array (Option Value)} {oc_stands_for kV_stands_for dc_stands_for pm_stands_for cd_stands_for ct_stands_for : Value}
    {f_row_fits : Addr} {od_row_fits an_row_fits : Option Addr} {sl_row_fits : Array (Option Value)} {oc_row_fits kV_row_fits dc_row_fits pm_row_fits cd_row_fits ct_row_fits : Value}
    {f_rows_fit : Addr} {od_rows_fit an_rows_fit : Option Addr} {sl_rows_fit : Array (Option Value)} {oc_rows_fit kV_rows_fit dc_rows_fit pm_rows_fit cd_rows_fit ct_rows_fit : Value}
    {f_shows : Addr} {od_shows an_shows : Option Addr} {sl_shows : Array (Option Value)} {oc_shows kV_shows dc_shows pm_shows cd_shows ct_shows : Value}
    {f__law_cell : Addr} {od__law_cell an__law_cell : Option Addr} {sl__law_cell : Array (Option Value)} {oc__law_cell kV__law_cell dc__law_cell pm__law_cell cd__law_cell ct__law_cell : Value}
    {f__law_mix : Addr} {od__law_mix an__law_mix : Option Addr} {sl__law_mix : Array (Option Value)} {oc__law_mix kV__law_mix dc__law_mix pm__law_mix cd__law_mix ct__law_mix : Value}
    {f__law_tiles : Addr} {od__law_tiles an__law_tiles : Option Addr} {sl__law_tiles : Array (Option Value)} {oc__law_tiles kV__law_tiles dc__law_tiles pm__law_tiles cd__law_tiles ct__law_tiles : Value}
    {f__law_system : Addr} {od__law_system an__law_system : Option Addr} {sl__law_system : Array (Option Value)} {oc__law_system kV__law_system dc__law_system pm__law_system cd__law_system ct__law_system : Value}
    {f__law_refusal : Addr} {od__law_refusal an__law_refusal : Option Addr} {sl__law_refusal : Array (Option Value)} {oc__law_refusal kV__law_refusal dc__law_refusal pm__law_refusal cd__law_refusal ct__law_refusal : Value}
    {f__law_good : Addr} {od__law_good an__law_good : Option Addr} {sl__law_good : Array (Option Value)} {oc__law_good kV__law_good dc__law_good pm__law_good cd__law_good ct__law_good : Value}
    {f__law_spoilt : Addr} {od__law_spoilt an__law_spoilt : Option Addr} {sl__law_spoilt : Array (Option Value)} {oc__law_spoilt kV__law_spoilt dc__law_spoilt pm__law_spoilt cd__law_spoilt ct__law_spoilt : Value}
    {f__law_told : Addr} {od__law_told an__law_told : Option Addr} {sl__law_told : Array (Option Value)} {oc__law_told kV__law_told dc__law_told pm__law_told cd__law_told ct__law_told : Value}
    {f_law : Addr} {od_law an_law : Option Addr} {sl_law : Array (Option Value)} {oc_law kV_law dc_law pm_law cd_law ct_law : Value}
    {tk_LETTERS : Tok}
    {tk_MOST_ROWS : Tok}
    {tk_MOST_COLUMNS : Tok}
    {tk_BORDER : Tok}
    {tk_MOST_MARKS : Tok}
    {tk_TILE_FIELDS : Tok}
    {c_QuiltError : Addr}
    {c_BadPicture : Addr}
    {c_BadSize : Addr}
    {c_BadSystem : Addr}
    {c_BadText : Addr}
    {c_Unlike : Addr}
    (a_are_letters : PySem.W.nsIn K mainGlobals "are_letters" = some (some (.ref f_are_letters)))
    (l_are_letters : K.lookup f_are_letters = some ⟨oc_are_letters, od_are_letters, .func (PySem.W.fnOf "are_letters" "are_letters" (defArgs s_are_letters) (defBody s_are_letters) (defScope s_are_letters) .none kV_are_letters dc_are_letters pm_are_letters an_are_letters cd_are_letters ct_are_letters), sl_are_letters⟩)
    (c_are_letters : PySem.W.codeIn K cd_are_letters "are_letters" = true)
    (k_are_letters : PySem.W.keepIn K (.ref f_are_letters) = true)
    (a_is_picture : PySem.W.nsIn K mainGlobals "is_picture" = some (some (.ref f_is_picture)))
    (l_is_picture : K.lookup f_is_picture = some ⟨oc_is_picture, od_is_picture, .func (PySem.W.fnOf "is_picture" "is_picture" (defArgs s_is_picture) (defBody s_is_picture) (defScope s_is_picture) .none kV_is_picture dc_is_picture pm_is_picture an_is_picture cd_is_picture ct_is_picture), sl_is_picture⟩)
    (c_is_picture : PySem.W.codeIn K cd_is_picture "is_picture" = true)
    (k_is_picture : PySem.W.keepIn K (.ref f_is_picture) = true)
    (a_look_picture : PySem.W.nsIn K mainGlobals "look_picture" = some (some (.ref f_look_picture)))
    (l_look_picture : K.lookup f_look_picture = some ⟨oc_look_picture, od_look_picture, .func (PySem.W.fnOf "look_picture" "look_picture" (defArgs s_look_picture) (defBody s_look_picture) (defScope s_look_picture) .none kV_look_picture dc_look_picture pm_look_picture an_look_picture cd_look_picture ct_look_picture), sl_look_picture⟩)
    (c_look_picture : PySem.W.codeIn K cd_look_picture "look_picture" = true)
    (k_look_picture : PySem.W.keepIn K (.ref f_look_picture) = true)
    (a_are_fields : PySem.W.nsIn K mainGlobals "are_fields" = some (some (.ref f_are_fields)))
    (l_are_fields : K.lookup f_are_fields = some ⟨oc_are_fields, od_are_fields, .func (PySem.W.fnOf "are_fields" "are_fields" (defArgs s_are_fields) (defBody s_are_fields) (defScope s_are_fields) .none kV_are_fields dc_are_fields pm_are_fields an_are_fields cd_are_fields ct_are_fields), sl_are_fields⟩)
    (c_are_fields : PySem.W.codeIn K cd_are_fields "are_fields" = true)
    (k_are_fields : PySem.W.keepIn K (.ref f_are_fields) = true)
    (a_rises : PySem.W.nsIn K mainGlobals "rises" = some (some (.ref f_rises)))
    (l_rises : K.lookup f_rises = some ⟨oc_rises, od_rises, .func (PySem.W.fnOf "rises" "rises" (defArgs s_rises) (defBody s_rises) (defScope s_rises) .none kV_rises dc_rises pm_rises an_rises cd_rises ct_rises), sl_rises⟩)
    (c_rises : PySem.W.codeIn K cd_rises "rises" = true)
    (k_rises : PySem.W.keepIn K (.ref f_rises) = true)
    (a_is_system : PySem.W.nsIn K mainGlobals "is_system" = some (some (.ref f_is_system)))
    (l_is_system : K.lookup f_is_system = some ⟨oc_is_system, od_is_system, .func (PySem.W.fnOf "is_system" "is_system" (defArgs s_is_system) (defBody s_is_system) (defScope s_is_system) .none kV_is_system dc_is_system pm_is_system an_is_system cd_is_system ct_is_system), sl_is_system⟩)
    (c_is_system : PySem.W.codeIn K cd_is_system "is_system" = true)
    (k_is_system : PySem.W.keepIn K (.ref f_is_system) = true)
    (a_look_system : PySem.W.nsIn K mainGlobals "look_system" = some (some (.ref f_look_system)))
    (l_look_system : K.lookup f_look_system = some ⟨oc_look_system, od_look_system, .func (PySem.W.fnOf "look_system" "look_system" (defArgs s_look_system) (defBody s_look_system) (defScope s_look_system) .none kV_look_system dc_look_system pm_look_system an_look_system cd_look_system ct_look_system), sl_look_system⟩)
    (c_look_system : PySem.W.codeIn K cd_look_system "look_system" = true)
    (k_look_system : PySem.W.keepIn K (.ref f_look_system) = true)
    (a_bordered : PySem.W.nsIn K mainGlobals "bordered" = some (some (.ref f_bordered)))
    (l_bordered : K.lookup f_bordered = some ⟨oc_bordered, od_bordered, .func (PySem.W.fnOf "bordered" "bordered" (defArgs s_bordered) (defBody s_bordered) (defScope s_bordered) .none kV_bordered dc_bordered pm_bordered an_bordered cd_bordered ct_bordered), sl_bordered⟩)
    (c_bordered : PySem.W.codeIn K cd_bordered "bordered" = true)
    (k_bordered : PySem.W.keepIn K (.ref f_bordered) = true)
    (a_tiles_of : PySem.W.nsIn K mainGlobals "tiles_of" = some (some (.ref f_tiles_of)))
    (l_tiles_of : K.lookup f_tiles_of = some ⟨oc_tiles_of, od_tiles_of, .func (PySem.W.fnOf "tiles_of" "tiles_of" (defArgs s_tiles_of) (defBody s_tiles_of) (defScope s_tiles_of) .none kV_tiles_of dc_tiles_of pm_tiles_of an_tiles_of cd_tiles_of ct_tiles_of), sl_tiles_of⟩)
    (c_tiles_of : PySem.W.codeIn K cd_tiles_of "tiles_of" = true)
    (k_tiles_of : PySem.W.keepIn K (.ref f_tiles_of) = true)
    (a_stands_for : PySem.W.nsIn K mainGlobals "stands_for" = some (some (.ref f_stands_for)))
    (l_stands_for : K.lookup f_stands_for = some ⟨oc_stands_for, od_stands_for, .func (PySem.W.fnOf "stands_for" "stands_for" (defArgs s_stands_for) (defBody s_stands_for) (defScope s_stands_for) .none kV_stands_for dc_stands_for pm_stands_for an_stands_for cd_stands_for ct_stands_for), sl_stands_for⟩)
    (c_stands_for : PySem.W.codeIn K cd_stands_for "stands_for" = true)
    (k_stands_for : PySem.W.keepIn K (.ref f_stands_for) = true)
    (a_row_fits : PySem.W.nsIn K mainGlobals "row_fits" = some (some (.ref f_row_fits)))
    (l_row_fits : K.lookup f_row_fits = some ⟨oc_row_fits, od_row_fits, .func (PySem.W.fnOf "row_fits" "row_fits" (defArgs s_row_fits) (defBody s_row_fits) (defScope s_row_fits) .none kV_row_fits dc_row_fits pm_row_fits an_row_fits cd_row_fits ct_row_fits), sl_row_fits⟩)
    (c_row_fits : PySem.W.codeIn K cd_row_fits "row_fits" = true)
    (k_row_fits : PySem.W.keepIn K (.ref f_row_fits) = true)
    (a_rows_fit : PySem.W.nsIn K mainGlobals "rows_fit" = some (some (.ref f_rows_fit)))
    (l_rows_fit : K.lookup f_rows_fit = some ⟨oc_rows_fit, od_rows_fit, .func (PySem.W.fnOf "rows_fit" "rows_fit" (defArgs s_rows_fit) (defBody s_rows_fit) (defScope s_rows_fit) .none kV_rows_fit dc_rows_fit pm_rows_fit an_rows_fit cd_rows_fit ct_rows_fit), sl_rows_fit⟩)
    (c_rows_fit : PySem.W.codeIn K cd_rows_fit "rows_fit" = true)
    (k_rows_fit : PySem.W.keepIn K (.ref f_rows_fit) = true)
    (a_shows : PySem.W.nsIn K mainGlobals "shows" = some (some (.ref f_shows)))
    (l_shows : K.lookup f_shows = some ⟨oc_shows, od_shows, .func (PySem.W.fnOf "shows" "shows" (defArgs s_shows) (defBody s_shows) (defScope s_shows) .none kV_shows dc_shows pm_shows an_shows cd_shows ct_shows), sl_shows⟩)
    (c_shows : PySem.W.codeIn K cd_shows "shows" = true)
    (k_shows : PySem.W.keepIn K (.ref f_shows) = true)
    (a__law_cell : PySem.W.nsIn K mainGlobals "_law_cell" = some (some (.ref f__law_cell)))
    (l__law_cell : K.lookup f__law_cell = some ⟨oc__law_cell, od__law_cell, .func (PySem.W.fnOf "_law_cell" "_law_cell" (defArgs s__law_cell) (defBody s__law_cell) (defScope s__law_cell) .none kV__law_cell dc__law_cell pm__law_cell an__law_cell cd__law_cell ct__law_cell), sl__law_cell⟩)
    (c__law_cell : PySem.W.codeIn K cd__law_cell "_law_cell" = true)
    (k__law_cell : PySem.W.keepIn K (.ref f__law_cell) = true)
    (a__law_mix : PySem.W.nsIn K mainGlobals "_law_mix" = some (some (.ref f__law_mix)))
    (l__law_mix : K.lookup f__law_mix = some ⟨oc__law_mix, od__law_mix, .func (PySem.W.fnOf "_law_mix" "_law_mix" (defArgs s__law_mix) (defBody s__law_mix) (defScope s__law_mix) .none kV__law_mix dc__law_mix pm__law_mix an__law_mix cd__law_mix ct__law_mix), sl__law_mix⟩)
    (c__law_mix : PySem.W.codeIn K cd__law_mix "_law_mix" = true)
    (k__law_mix : PySem.W.keepIn K (.ref f__law_mix) = true)
    (a__law_tiles : PySem.W.nsIn K mainGlobals "_law_tiles" = some (some (.ref f__law_tiles)))
    (l__law_tiles : K.lookup f__law_tiles = some ⟨oc__law_tiles, od__law_tiles, .func (PySem.W.fnOf "_law_tiles" "_law_tiles" (defArgs s__law_tiles) (defBody s__law_tiles) (defScope s__law_tiles) .none kV__law_tiles dc__law_tiles pm__law_tiles an__law_tiles cd__law_tiles ct__law_tiles), sl__law_tiles⟩)
    (c__law_tiles : PySem.W.codeIn K cd__law_tiles "_law_tiles" = true)
    (k__law_tiles : PySem.W.keepIn K (.ref f__law_tiles) = true)
    (a__law_system : PySem.W.nsIn K mainGlobals "_law_system" = some (some (.ref f__law_system)))
    (l__law_system : K.lookup f__law_system = some ⟨oc__law_system, od__law_system, .func (PySem.W.fnOf "_law_system" "_law_system" (defArgs s__law_system) (defBody s__law_system) (defScope s__law_system) .none kV__law_system dc__law_system pm__law_system an__law_system cd__law_system ct__law_system), sl__law_system⟩)
    (c__law_system : PySem.W.codeIn K cd__law_system "_law_system" = true)
    (k__law_system : PySem.W.keepIn K (.ref f__law_system) = true)
    (a__law_refusal : PySem.W.nsIn K mainGlobals "_law_refusal" = some (some (.ref f__law_refusal)))
    (l__law_refusal : K.lookup f__law_refusal = some ⟨oc__law_refusal, od__law_refusal, .func (PySem.W.fnOf "_law_refusal" "_law_refusal" (defArgs s__law_refusal) (defBody s__law_refusal) (defScope s__law_refusal) .none kV__law_refusal dc__law_refusal pm__law_refusal an__law_refusal cd__law_refusal ct__law_refusal), sl__law_refusal⟩)
    (c__law_refusal : PySem.W.codeIn K cd__law_refusal "_law_refusal" = true)
    (k__law_refusal : PySem.W.keepIn K (.ref f__law_refusal) = true)
    (a__law_good : PySem.W.nsIn K mainGlobals "_law_good" = some (some (.ref f__law_good)))
    (l__law_good : K.lookup f__law_good = some ⟨oc__law_good, od__law_good, .func (PySem.W.fnOf "_law_good" "_law_good" (defArgs s__law_good) (defBody s__law_good) (defScope s__law_good) .none kV__law_good dc__law_good pm__law_good an__law_good cd__law_good ct__law_good), sl__law_good⟩)
    (c__law_good : PySem.W.codeIn K cd__law_good "_law_good" = true)
    (k__law_good : PySem.W.keepIn K (.ref f__law_good) = true)
    (a__law_spoilt : PySem.W.nsIn K mainGlobals "_law_spoilt" = some (some (.ref f__law_spoilt)))
    (l__law_spoilt : K.lookup f__law_spoilt = some ⟨oc__law_spoilt, od__law_spoilt, .func (PySem.W.fnOf "_law_spoilt" "_law_spoilt" (defArgs s__law_spoilt) (defBody s__law_spoilt) (defScope s__law_spoilt) .none kV__law_spoilt dc__law_spoilt pm__law_spoilt an__law_spoilt cd__law_spoilt ct__law_spoilt), sl__law_spoilt⟩)
    (c__law_spoilt : PySem.W.codeIn K cd__law_spoilt "_law_spoilt" = true)
    (k__law_spoilt : PySem.W.keepIn K (.ref f__law_spoilt) = true)
    (a__law_told : PySem.W.nsIn K mainGlobals "_law_told" = some (some (.ref f__law_told)))
    (l__law_told : K.lookup f__law_told = some ⟨oc__law_told, od__law_told, .func (PySem.W.fnOf "_law_told" "_law_told" (defArgs s__law_told) (defBody s__law_told) (defScope s__law_told) .none kV__law_told dc__law_told pm__law_told an__law_told cd__law_told ct__law_told), sl__law_told⟩)
    (c__law_told : PySem.W.codeIn K cd__law_told "_law_told" = true)
    (k__law_told : PySem.W.keepIn K (.ref f__law_told) = true)
    (a_law : PySem.W.nsIn K mainGlobals "law" = some (some (.ref f_law)))
    (l_law : K.lookup f_law = some ⟨oc_law, od_law, .func (PySem.W.fnOf "law" "law" (defArgs s_law) (defBody s_law) (defScope s_law) .none kV_law dc_law pm_law an_law cd_law ct_law), sl_law⟩)
    (c_law : PySem.W.codeIn K cd_law "law" = true)
    (k_law : PySem.W.keepIn K (.ref f_law) = true)
    (a_LETTERS : PySem.W.nsIn K mainGlobals "LETTERS" = some (some (.str "abcd" tk_LETTERS)))
    (a_MOST_ROWS : PySem.W.nsIn K mainGlobals "MOST_ROWS" = some (some (.int 4 tk_MOST_ROWS)))
    (a_MOST_COLUMNS : PySem.W.nsIn K mainGlobals "MOST_COLUMNS" = some (some (.int 12 tk_MOST_COLUMNS)))
    (a_BORDER : PySem.W.nsIn K mainGlobals "BORDER" = some (some (.int (-1) tk_BORDER)))
    (a_MOST_MARKS : PySem.W.nsIn K mainGlobals "MOST_MARKS" = some (some (.int 16 tk_MOST_MARKS)))
    (a_TILE_FIELDS : PySem.W.nsIn K mainGlobals "TILE_FIELDS" = some (some (.int 4 tk_TILE_FIELDS)))
    (a_QuiltError : PySem.W.nsIn K mainGlobals "QuiltError" = some (some (.ref c_QuiltError)))
    (a_BadPicture : PySem.W.nsIn K mainGlobals "BadPicture" = some (some (.ref c_BadPicture)))
    (a_BadSize : PySem.W.nsIn K mainGlobals "BadSize" = some (some (.ref c_BadSize)))
    (a_BadSystem : PySem.W.nsIn K mainGlobals "BadSystem" = some (some (.ref c_BadSystem)))
    (a_BadText : PySem.W.nsIn K mainGlobals "BadText" = some (some (.ref c_BadText)))
    (a_Unlike : PySem.W.nsIn K mainGlobals "Unlike" = some (some (.ref c_Unlike)))
    (e_BadPicture : PySem.W.excIn K c_BadPicture [.type "ValueError", .type "Exception", .type "BaseException", .type "object"] "ValueError.__new__" = true)
    (g1_BadPicture : PySem.W.findIn K (.ref c_BadPicture) "__getattribute__" = some (some (.builtin "BaseException.__getattribute__")))
    (g2_BadPicture : PySem.W.findIn K (.ref c_BadPicture) "__getattr__" = some none)
    (g3_BadPicture : PySem.W.findIn K (.ref c_BadPicture) "__class__" = some (some (.builtin "object.__class__")))
    (g4_BadPicture : PySem.W.mroIn K c_BadPicture (.type "BaseException") = some true)
    (g5_BadPicture : PySem.W.mroIn K c_BadPicture (.type "object") = some true)
    (e_BadSystem : PySem.W.excIn K c_BadSystem [.type "ValueError", .type "Exception", .type "BaseException", .type "object"] "ValueError.__new__" = true)
    (g1_BadSystem : PySem.W.findIn K (.ref c_BadSystem) "__getattribute__" = some (some (.builtin "BaseException.__getattribute__")))
    (g2_BadSystem : PySem.W.findIn K (.ref c_BadSystem) "__getattr__" = some none)
    (g3_BadSystem : PySem.W.findIn K (.ref c_BadSystem) "__class__" = some (some (.builtin "object.__class__")))
    (g4_BadSystem : PySem.W.mroIn K c_BadSystem (.type "BaseException") = some true)
    (g5_BadSystem : PySem.W.mroIn K c_BadSystem (.type "object") = some true)
    (kk_BadPicture_BadPicture : PySem.W.kitOne K (.ref c_BadPicture) (.ref c_BadPicture) = some true)
    (kk_BadPicture_BadSize : PySem.W.kitOne K (.ref c_BadPicture) (.ref c_BadSize) = some false)
    (kk_BadPicture_BadSystem : PySem.W.kitOne K (.ref c_BadPicture) (.ref c_BadSystem) = some false)
    (kk_BadPicture_BadText : PySem.W.kitOne K (.ref c_BadPicture) (.ref c_BadText) = some false)
    (kk_BadPicture_Unlike : PySem.W.kitOne K (.ref c_BadPicture) (.ref c_Unlike) = some false)
    (kk_BadPicture_ValueError : PySem.W.kitOne K (.ref c_BadPicture) (.type "ValueError") = some true)
    (kk_BadSystem_BadPicture : PySem.W.kitOne K (.ref c_BadSystem) (.ref c_BadPicture) = some false)
    (kk_BadSystem_BadSize : PySem.W.kitOne K (.ref c_BadSystem) (.ref c_BadSize) = some false)
    (kk_BadSystem_BadSystem : PySem.W.kitOne K (.ref c_BadSystem) (.ref c_BadSystem) = some true)
    (kk_BadSystem_BadText : PySem.W.kitOne K (.ref c_BadSystem) (.ref c_BadText) = some false)
    (kk_BadSystem_Unlike : PySem.W.kitOne K (.ref c_BadSystem) (.ref c_Unlike) = some false)
    (kk_BadSystem_ValueError : PySem.W.kitOne K (.ref c_BadSystem) (.type "ValueError") = some true)
    (hh_BadPicture_QuiltError : PySem.W.exmOne K (.ref c_BadPicture) (.ref c_QuiltError) = some true)
    (hh_BadSystem_QuiltError : PySem.W.exmOne K (.ref c_BadSystem) (.ref c_QuiltError) = some true)
    (kkt_bool_bool : PySem.W.kitOne K (.type "bool") (.type "bool") = some true)
    (kkt_str_bool : PySem.W.kitOne K (.type "str") (.type "bool") = some false)
    (kkt_NoneType_bool : PySem.W.kitOne K (.type "NoneType") (.type "bool") = some false)
    (z_len : PySem.W.nsIn K mainGlobals "len" = some none)
    (z_all : PySem.W.nsIn K mainGlobals "all" = some none)
    (z_any : PySem.W.nsIn K mainGlobals "any" = some none)
    (z_range : PySem.W.nsIn K mainGlobals "range" = some none)
    (z_zip : PySem.W.nsIn K mainGlobals "zip" = some none)
    (z_isinstance : PySem.W.nsIn K mainGlobals "isinstance" = some none)
    (z_max : PySem.W.nsIn K mainGlobals "max" = some none)
    (z_min : PySem.W.nsIn K mainGlobals "min" = some none)
    (z_list : PySem.W.nsIn K mainGlobals "list" = some none)
    (z_tuple : PySem.W.nsIn K mainGlobals "tuple" = some none)
    (z_set : PySem.W.nsIn K mainGlobals "set" = some none)
    (z_sorted : PySem.W.nsIn K mainGlobals "sorted" = some none)
    (z_int : PySem.W.nsIn K mainGlobals "int" = some none)
    (z_dict : PySem.W.nsIn K mainGlobals "dict" = some none)
    (z_bool : PySem.W.nsIn K mainGlobals "bool" = some none)
    (z_ValueError : PySem.W.nsIn K mainGlobals "ValueError" = some none) :
    ∃ t : Ad, Txt K mg t ∧ fa = t.f_law ∧ ∀ (s : Shared) (u : Value), BindsTo s t.d_law ⟨[u], []⟩ [("_law_script", u)] := by
  have e := hfa.symm.trans (PySem.W.mg_of X G a_law)
  cases e
  exact ⟨⟨f_are_letters, PySem.W.fnOf "are_letters" "are_letters" (defArgs s_are_letters) (defBody s_are_letters) (defScope s_are_letters) .none kV_are_letters dc_are_letters pm_are_letters an_are_letters cd_are_letters ct_are_letters, f_is_picture, PySem.W.fnOf "is_picture" "is_picture" (defArgs s_is_picture) (defBody s_is_picture) (defScope s_is_picture) .none kV_is_picture dc_is_picture pm_is_picture an_is_picture cd_is_picture ct_is_picture, f_look_picture, PySem.W.fnOf "look_picture" "look_picture" (defArgs s_look_picture) (defBody s_look_picture) (defScope s_look_picture) .none kV_look_picture dc_look_picture pm_look_picture an_look_picture cd_look_picture ct_look_picture, f_are_fields, PySem.W.fnOf "are_fields" "are_fields" (defArgs s_are_fields) (defBody s_are_fields) (defScope s_are_fields) .none kV_are_fields dc_are_fields pm_are_fields an_are_fields cd_are_fields ct_are_fields, f_rises, PySem.W.fnOf "rises" "rises" (defArgs s_rises) (defBody s_rises) (defScope s_rises) .none kV_rises dc_rises pm_rises an_rises cd_rises ct_rises, f_is_system, PySem.W.fnOf "is_system" "is_system" (defArgs s_is_system) (defBody s_is_system) (defScope s_is_system) .none kV_is_system dc_is_system pm_is_system an_is_system cd_is_system ct_is_system, f_look_system, PySem.W.fnOf "look_system" "look_system" (defArgs s_look_system) (defBody s_look_system) (defScope s_look_system) .none kV_look_system dc_look_system pm_look_system an_look_system cd_look_system ct_look_system, f_bordered, PySem.W.fnOf "bordered" "bordered" (defArgs s_bordered) (defBody s_bordered) (defScope s_bordered) .none kV_bordered dc_bordered pm_bordered an_bordered cd_bordered ct_bordered, f_tiles_of, PySem.W.fnOf "tiles_of" "tiles_of" (defArgs s_tiles_of) (defBody s_tiles_of) (defScope s_tiles_of) .none kV_tiles_of dc_tiles_of pm_tiles_of an_tiles_of cd_tiles_of ct_tiles_of, f_stands_for, PySem.W.fnOf "stands_for" "stands_for" (defArgs s_stands_for) (defBody s_stands_for) (defScope s_stands_for) .none kV_stands_for dc_stands_for pm_stands_for an_stands_for cd_stands_for ct_stands_for, f_row_fits, PySem.W.fnOf "row_fits" "row_fits" (defArgs s_row_fits) (defBody s_row_fits) (defScope s_row_fits) .none kV_row_fits dc_row_fits pm_row_fits an_row_fits cd_row_fits ct_row_fits, f_rows_fit, PySem.W.fnOf "rows_fit" "rows_fit" (defArgs s_rows_fit) (defBody s_rows_fit) (defScope s_rows_fit) .none kV_rows_fit dc_rows_fit pm_rows_fit an_rows_fit cd_rows_fit ct_rows_fit, f_shows, PySem.W.fnOf "shows" "shows" (defArgs s_shows) (defBody s_shows) (defScope s_shows) .none kV_shows dc_shows pm_shows an_shows cd_shows ct_shows, f__law_cell, PySem.W.fnOf "_law_cell" "_law_cell" (defArgs s__law_cell) (defBody s__law_cell) (defScope s__law_cell) .none kV__law_cell dc__law_cell pm__law_cell an__law_cell cd__law_cell ct__law_cell, f__law_mix, PySem.W.fnOf "_law_mix" "_law_mix" (defArgs s__law_mix) (defBody s__law_mix) (defScope s__law_mix) .none kV__law_mix dc__law_mix pm__law_mix an__law_mix cd__law_mix ct__law_mix, f__law_tiles, PySem.W.fnOf "_law_tiles" "_law_tiles" (defArgs s__law_tiles) (defBody s__law_tiles) (defScope s__law_tiles) .none kV__law_tiles dc__law_tiles pm__law_tiles an__law_tiles cd__law_tiles ct__law_tiles, f__law_system, PySem.W.fnOf "_law_system" "_law_system" (defArgs s__law_system) (defBody s__law_system) (defScope s__law_system) .none kV__law_system dc__law_system pm__law_system an__law_system cd__law_system ct__law_system, f__law_refusal, PySem.W.fnOf "_law_refusal" "_law_refusal" (defArgs s__law_refusal) (defBody s__law_refusal) (defScope s__law_refusal) .none kV__law_refusal dc__law_refusal pm__law_refusal an__law_refusal cd__law_refusal ct__law_refusal, f__law_good, PySem.W.fnOf "_law_good" "_law_good" (defArgs s__law_good) (defBody s__law_good) (defScope s__law_good) .none kV__law_good dc__law_good pm__law_good an__law_good cd__law_good ct__law_good, f__law_spoilt, PySem.W.fnOf "_law_spoilt" "_law_spoilt" (defArgs s__law_spoilt) (defBody s__law_spoilt) (defScope s__law_spoilt) .none kV__law_spoilt dc__law_spoilt pm__law_spoilt an__law_spoilt cd__law_spoilt ct__law_spoilt, f__law_told, PySem.W.fnOf "_law_told" "_law_told" (defArgs s__law_told) (defBody s__law_told) (defScope s__law_told) .none kV__law_told dc__law_told pm__law_told an__law_told cd__law_told ct__law_told, fa, PySem.W.fnOf "law" "law" (defArgs s_law) (defBody s_law) (defScope s_law) .none kV_law dc_law pm_law an_law cd_law ct_law, .str "abcd" tk_LETTERS, .int 4 tk_MOST_ROWS, .int 12 tk_MOST_COLUMNS, .int (-1) tk_BORDER, .int 16 tk_MOST_MARKS, .int 4 tk_TILE_FIELDS, c_QuiltError, c_BadPicture, c_BadSize, c_BadSystem, c_BadText, c_Unlike⟩, ⟨⟨fun_mk (st := s_are_letters) l_are_letters c_are_letters k_are_letters, (fun_mk (st := s_are_letters) l_are_letters c_are_letters k_are_letters).binds (ps := ["text"]) (fun _ _ _ _ _ _ us hl => match us, hl with | [_], _ => rfl), PySem.W.mg_of X G a_are_letters⟩,
    ⟨fun_mk (st := s_is_picture) l_is_picture c_is_picture k_is_picture, (fun_mk (st := s_is_picture) l_is_picture c_is_picture k_is_picture).binds (ps := ["rows"]) (fun _ _ _ _ _ _ us hl => match us, hl with | [_], _ => rfl), PySem.W.mg_of X G a_is_picture⟩,
    ⟨fun_mk (st := s_look_picture) l_look_picture c_look_picture k_look_picture, (fun_mk (st := s_look_picture) l_look_picture c_look_picture k_look_picture).binds (ps := ["picture"]) (fun _ _ _ _ _ _ us hl => match us, hl with | [_], _ => rfl), PySem.W.mg_of X G a_look_picture⟩,
    ⟨fun_mk (st := s_are_fields) l_are_fields c_are_fields k_are_fields, (fun_mk (st := s_are_fields) l_are_fields c_are_fields k_are_fields).binds (ps := ["fields", "many", "marks"]) (fun _ _ _ _ _ _ us hl => match us, hl with | [_, _, _], _ => rfl), PySem.W.mg_of X G a_are_fields⟩,
    ⟨fun_mk (st := s_rises) l_rises c_rises k_rises, (fun_mk (st := s_rises) l_rises c_rises k_rises).binds (ps := ["tiles"]) (fun _ _ _ _ _ _ us hl => match us, hl with | [_], _ => rfl), PySem.W.mg_of X G a_rises⟩,
    ⟨fun_mk (st := s_is_system) l_is_system c_is_system k_is_system, (fun_mk (st := s_is_system) l_is_system c_is_system k_is_system).binds (ps := ["system"]) (fun _ _ _ _ _ _ us hl => match us, hl with | [_], _ => rfl), PySem.W.mg_of X G a_is_system⟩,
    ⟨fun_mk (st := s_look_system) l_look_system c_look_system k_look_system, (fun_mk (st := s_look_system) l_look_system c_look_system k_look_system).binds (ps := ["system"]) (fun _ _ _ _ _ _ us hl => match us, hl with | [_], _ => rfl), PySem.W.mg_of X G a_look_system⟩,
    ⟨fun_mk (st := s_bordered) l_bordered c_bordered k_bordered, (fun_mk (st := s_bordered) l_bordered c_bordered k_bordered).binds (ps := ["rows"]) (fun _ _ _ _ _ _ us hl => match us, hl with | [_], _ => rfl), PySem.W.mg_of X G a_bordered⟩,
    ⟨fun_mk (st := s_tiles_of) l_tiles_of c_tiles_of k_tiles_of, (fun_mk (st := s_tiles_of) l_tiles_of c_tiles_of k_tiles_of).binds (ps := ["rows"]) (fun _ _ _ _ _ _ us hl => match us, hl with | [_], _ => rfl), PySem.W.mg_of X G a_tiles_of⟩,
    ⟨fun_mk (st := s_stands_for) l_stands_for c_stands_for k_stands_for, (fun_mk (st := s_stands_for) l_stands_for c_stands_for k_stands_for).binds (ps := ["letters", "mark", "letter"]) (fun _ _ _ _ _ _ us hl => match us, hl with | [_, _, _], _ => rfl), PySem.W.mg_of X G a_stands_for⟩,
    ⟨fun_mk (st := s_row_fits) l_row_fits c_row_fits k_row_fits, (fun_mk (st := s_row_fits) l_row_fits c_row_fits k_row_fits).binds (ps := ["letters", "text", "marks"]) (fun _ _ _ _ _ _ us hl => match us, hl with | [_, _, _], _ => rfl), PySem.W.mg_of X G a_row_fits⟩,
    ⟨fun_mk (st := s_rows_fit) l_rows_fit c_rows_fit k_rows_fit, (fun_mk (st := s_rows_fit) l_rows_fit c_rows_fit k_rows_fit).binds (ps := ["letters", "picture", "rows"]) (fun _ _ _ _ _ _ us hl => match us, hl with | [_, _, _], _ => rfl), PySem.W.mg_of X G a_rows_fit⟩,
    ⟨fun_mk (st := s_shows) l_shows c_shows k_shows, (fun_mk (st := s_shows) l_shows c_shows k_shows).binds (ps := ["system", "picture", "rows"]) (fun _ _ _ _ _ _ us hl => match us, hl with | [_, _, _], _ => rfl), PySem.W.mg_of X G a_shows⟩,
    ⟨fun_mk (st := s__law_cell) l__law_cell c__law_cell k__law_cell, (fun_mk (st := s__law_cell) l__law_cell c__law_cell k__law_cell).binds (ps := ["_law_script", "_law_k"]) (fun _ _ _ _ _ _ us hl => match us, hl with | [_, _], _ => rfl), PySem.W.mg_of X G a__law_cell⟩,
    ⟨fun_mk (st := s__law_mix) l__law_mix c__law_mix k__law_mix, (fun_mk (st := s__law_mix) l__law_mix c__law_mix k__law_mix).binds (ps := ["_law_script", "_law_k"]) (fun _ _ _ _ _ _ us hl => match us, hl with | [_, _], _ => rfl), PySem.W.mg_of X G a__law_mix⟩,
    ⟨fun_mk (st := s__law_tiles) l__law_tiles c__law_tiles k__law_tiles, (fun_mk (st := s__law_tiles) l__law_tiles c__law_tiles k__law_tiles).binds (ps := ["_law_rows"]) (fun _ _ _ _ _ _ us hl => match us, hl with | [_], _ => rfl), PySem.W.mg_of X G a__law_tiles⟩,
    ⟨fun_mk (st := s__law_system) l__law_system c__law_system k__law_system, (fun_mk (st := s__law_system) l__law_system c__law_system k__law_system).binds (ps := ["_law_script", "_law_k", "_law_marks"]) (fun _ _ _ _ _ _ us hl => match us, hl with | [_, _, _], _ => rfl), PySem.W.mg_of X G a__law_system⟩,
    ⟨fun_mk (st := s__law_refusal) l__law_refusal c__law_refusal k__law_refusal, (fun_mk (st := s__law_refusal) l__law_refusal c__law_refusal k__law_refusal).binds (ps := ["_law_kept"]) (fun _ _ _ _ _ _ us hl => match us, hl with | [_], _ => rfl), PySem.W.mg_of X G a__law_refusal⟩,
    ⟨fun_mk (st := s__law_good) l__law_good c__law_good k__law_good, (fun_mk (st := s__law_good) l__law_good c__law_good k__law_good).binds (ps := ["_law_system_here"]) (fun _ _ _ _ _ _ us hl => match us, hl with | [_], _ => rfl), PySem.W.mg_of X G a__law_good⟩,
    ⟨fun_mk (st := s__law_spoilt) l__law_spoilt c__law_spoilt k__law_spoilt, (fun_mk (st := s__law_spoilt) l__law_spoilt c__law_spoilt k__law_spoilt).binds (ps := ["_law_system_here", "_law_number"]) (fun _ _ _ _ _ _ us hl => match us, hl with | [_, _], _ => rfl), PySem.W.mg_of X G a__law_spoilt⟩,
    ⟨fun_mk (st := s__law_told) l__law_told c__law_told k__law_told, (fun_mk (st := s__law_told) l__law_told c__law_told k__law_told).binds (ps := ["_law_way", "_law_system_here", "_law_picture", "_law_rows"]) (fun _ _ _ _ _ _ us hl => match us, hl with | [_, _, _, _], _ => rfl), PySem.W.mg_of X G a__law_told⟩,
    ⟨fun_mk (st := s_law) l_law c_law k_law, (fun_mk (st := s_law) l_law c_law k_law).binds (ps := ["_law_script"]) (fun _ _ _ _ _ _ us hl => match us, hl with | [_], _ => rfl), PySem.W.mg_of X G a_law⟩,
    PySem.W.mg_of X G a_LETTERS,
    ⟨_, rfl⟩,
    PySem.W.mg_of X G a_MOST_ROWS,
    ⟨_, rfl⟩,
    PySem.W.mg_of X G a_MOST_COLUMNS,
    ⟨_, rfl⟩,
    PySem.W.mg_of X G a_BORDER,
    ⟨_, rfl⟩,
    PySem.W.mg_of X G a_MOST_MARKS,
    ⟨_, rfl⟩,
    PySem.W.mg_of X G a_TILE_FIELDS,
    ⟨_, rfl⟩,
    PySem.W.mg_of X G a_QuiltError,
    PySem.W.mg_of X G a_BadPicture,
    PySem.W.mg_of X G a_BadSize,
    PySem.W.mg_of X G a_BadSystem,
    PySem.W.mg_of X G a_BadText,
    PySem.W.mg_of X G a_Unlike,
    ⟨PySem.W.mg_of X G a_BadPicture, e_BadPicture⟩,
    ⟨g1_BadPicture, g2_BadPicture, g3_BadPicture, g4_BadPicture, g5_BadPicture⟩,
    ⟨PySem.W.mg_of X G a_BadSystem, e_BadSystem⟩,
    ⟨g1_BadSystem, g2_BadSystem, g3_BadSystem, g4_BadSystem, g5_BadSystem⟩,
    kk_BadPicture_BadPicture,
    kk_BadPicture_BadSize,
    kk_BadPicture_BadSystem,
    kk_BadPicture_BadText,
    kk_BadPicture_Unlike,
    kk_BadPicture_ValueError,
    kk_BadSystem_BadPicture,
    kk_BadSystem_BadSize,
    kk_BadSystem_BadSystem,
    kk_BadSystem_BadText,
    kk_BadSystem_Unlike,
    kk_BadSystem_ValueError,
    hh_BadPicture_QuiltError,
    hh_BadSystem_QuiltError,
    kkt_bool_bool,
    kkt_str_bool,
    kkt_NoneType_bool,
    PySem.W.mg_none_of X G z_len,
    PySem.W.mg_none_of X G z_all,
    PySem.W.mg_none_of X G z_any,
    PySem.W.mg_none_of X G z_range,
    PySem.W.mg_none_of X G z_zip,
    PySem.W.mg_none_of X G z_isinstance,
    PySem.W.mg_none_of X G z_max,
    PySem.W.mg_none_of X G z_min,
    PySem.W.mg_none_of X G z_list,
    PySem.W.mg_none_of X G z_tuple,
    PySem.W.mg_none_of X G z_set,
    PySem.W.mg_none_of X G z_sorted,
    PySem.W.mg_none_of X G z_int,
    PySem.W.mg_none_of X G z_dict,
    PySem.W.mg_none_of X G z_bool,
    PySem.W.mg_none_of X G z_ValueError⟩, rfl, fun s u => .of_eq rfl⟩

theorem all_of {P : Program} {w : World} {K : PySem.W.Frag} {mg : Str → Option Value} {fa : Addr} (h : ∃ t : Ad, Txt K mg t ∧ fa = t.f_law ∧ ∀ (s : Shared) (u : Value), BindsTo s t.d_law ⟨[u], []⟩ [("_law_script", u)]) :
    ∃ fd : FuncData, (∀ (s : Shared) (u : Value), BindsTo s fd ⟨[u], []⟩ [("_law_script", u)]) ∧ ∀ base : Heap, K.In base → base.Ns mainGlobals mg → FnOk P w K mg base CX0 6 fa fd ["_law_script"] (sp_law K) := by
  obtain ⟨t, T, rfl, hb⟩ := h
  exact ⟨_, hb, fun base _ _ => ok_law T⟩
theorem walk {l : PySem.W.OpenLaw} {q : Program} {loose : List Str} {XP : (Str → Option Value) → Heap → Prop} {YP : World → Heap → Prop} {d : DefRec} {K : Params → PySem.W.Frag} (hn : l.most = some 63) (hdf : d.params.defaults = [])
    (hY : ∀ (w : World) (h : Heap), YP w h → (K w.params).In h)
    (F : ∀ (w : World) (mg : Str → Option Value) (fa : Addr) (h : Heap), (K w.params).In h → h.Ns mainGlobals mg → mg d.name = some (.ref fa) →
      ∃ fd : FuncData, (∀ (s : Shared) (u : Value), BindsTo s fd ⟨[u], []⟩ [("_law_script", u)]) ∧ ∀ base : Heap, (K w.params).In base → base.Ns mainGlobals mg → FnOk l.prog w (K w.params) mg base CX0 6 fa fd ["_law_script"] (sp_law (K w.params))) :
    PySem.W.WalkO q loose XP YP l.row.toRowW d [] (fun f vs => PySem.call f vs) :=
  L2.walk_of (n := 63) (k := 6) (x := "_law_script") (CX := fun _ => CX0) (sp := fun w => sp_law (K w.params)) hn (by decide) hdf ⟨rfl, by decide, by decide⟩ hY F (fun _ _ a ns hl _ hS => ⟨a, ns, rfl, hS, hl, fun _ => rfl⟩) fun _ _ _ _ _ z => z
end K02
open PySem PySem.W PyProof.Rows
set_option maxRecDepth 100000 in
set_option maxHeartbeats 0 in
theorem PySem.Challenge.cw_quiltyard_k02_systems_holds : PySem.Challenge.rw_quiltyard_k02_systems.Holds := by
  w_on; o_law; k_head; (case hw => w_witness2)
  k_fill
  refine K02.walk (l := PySem.Challenge.rw_quiltyard_k02_systems) rfl rfl (fun w h Y => PySem.W.kIn_of Y) ?F
  case F =>
    intro w mg fa h KX G hmg
    refine K02.all_of ?T
    case T =>
      refine' K02.txt_mk KX G hmg ?a_are_letters ?l_are_letters ?c_are_letters ?k_are_letters ?a_is_picture ?l_is_picture ?c_is_picture ?k_is_picture ?a_look_picture ?l_look_picture ?c_look_picture ?k_look_picture ?a_are_fields ?l_are_fields ?c_are_fields ?k_are_fields ?a_rises ?l_rises ?c_rises ?k_rises ?a_is_system ?l_is_system ?c_is_system ?k_is_system ?a_look_system ?l_look_system ?c_look_system ?k_look_system ?a_bordered ?l_bordered ?c_bordered ?k_bordered ?a_tiles_of ?l_tiles_of ?c_tiles_of ?k_tiles_of ?a_stands_for ?l_stands_for ?c_stands_for ?k_stands_for ?a_row_fits ?l_row_fits ?c_row_fits ?k_row_fits ?a_rows_fit ?l_rows_fit ?c_rows_fit ?k_rows_fit ?a_shows ?l_shows ?c_shows ?k_shows ?a__law_cell ?l__law_cell ?c__law_cell ?k__law_cell ?a__law_mix ?l__law_mix ?c__law_mix ?k__law_mix ?a__law_tiles ?l__law_tiles ?c__law_tiles ?k__law_tiles ?a__law_system ?l__law_system ?c__law_system ?k__law_system ?a__law_refusal ?l__law_refusal ?c__law_refusal ?k__law_refusal ?a__law_good ?l__law_good ?c__law_good ?k__law_good ?a__law_spoilt ?l__law_spoilt ?c__law_spoilt ?k__law_spoilt ?a__law_told ?l__law_told ?c__law_told ?k__law_told ?a_law ?l_law ?c_law ?k_law ?a_LETTERS ?a_MOST_ROWS ?a_MOST_COLUMNS ?a_BORDER ?a_MOST_MARKS ?a_TILE_FIELDS ?a_QuiltError ?a_BadPicture ?a_BadSize ?a_BadSystem ?a_BadText ?a_Unlike ?e_BadPicture ?g1_BadPicture ?g2_BadPicture ?g3_BadPicture ?g4_BadPicture ?g5_BadPicture ?e_BadSystem ?g1_BadSystem ?g2_BadSystem ?g3_BadSystem ?g4_BadSystem ?g5_BadSystem ?kk_BadPicture_BadPicture ?kk_BadPicture_BadSize ?kk_BadPicture_BadSystem ?kk_BadPicture_BadText ?kk_BadPicture_Unlike ?kk_BadPicture_ValueError ?kk_BadSystem_BadPicture ?kk_BadSystem_BadSize ?kk_BadSystem_BadSystem ?kk_BadSystem_BadText ?kk_BadSystem_Unlike ?kk_BadSystem_ValueError ?hh_BadPicture_QuiltError ?hh_BadSystem_QuiltError ?kkt_bool_bool ?kkt_str_bool ?kkt_NoneType_bool ?z_len ?z_all ?z_any ?z_range ?z_zip ?z_isinstance ?z_max ?z_min ?z_list ?z_tuple ?z_set ?z_sorted ?z_int ?z_dict ?z_bool ?z_ValueError
      (case a_are_letters => k_is)
      (case l_are_letters => k_is)
      (case c_are_letters => k_is)
      (case k_are_letters => k_is)
      (case a_is_picture => k_is)
      (case l_is_picture => k_is)
      (case c_is_picture => k_is)
      (case k_is_picture => k_is)
      (case a_look_picture => k_is)
      (case l_look_picture => k_is)
      (case c_look_picture => k_is)
      (case k_look_picture => k_is)
      (case a_are_fields => k_is)
      (case l_are_fields => k_is)
      (case c_are_fields => k_is)
      (case k_are_fields => k_is)
      (case a_rises => k_is)
      (case l_rises => k_is)
      (case c_rises => k_is)
      (case k_rises => k_is)
      (case a_is_system => k_is)
      (case l_is_system => k_is)
      (case c_is_system => k_is)
      (case k_is_system => k_is)
      (case a_look_system => k_is)
      (case l_look_system => k_is)
      (case c_look_system => k_is)
      (case k_look_system => k_is)
      (case a_bordered => k_is)
      (case l_bordered => k_is)
      (case c_bordered => k_is)
      (case k_bordered => k_is)
      (case a_tiles_of => k_is)
      (case l_tiles_of => k_is)
      (case c_tiles_of => k_is)
      (case k_tiles_of => k_is)
      (case a_stands_for => k_is)
      (case l_stands_for => k_is)
      (case c_stands_for => k_is)
      (case k_stands_for => k_is)
      (case a_row_fits => k_is)
      (case l_row_fits => k_is)
      (case c_row_fits => k_is)
      (case k_row_fits => k_is)
      (case a_rows_fit => k_is)
      (case l_rows_fit => k_is)
      (case c_rows_fit => k_is)
      (case k_rows_fit => k_is)
      (case a_shows => k_is)
      (case l_shows => k_is)
      (case c_shows => k_is)
      (case k_shows => k_is)
      (case a__law_cell => k_is)
      (case l__law_cell => k_is)
      (case c__law_cell => k_is)
      (case k__law_cell => k_is)
      (case a__law_mix => k_is)
      (case l__law_mix => k_is)
      (case c__law_mix => k_is)
      (case k__law_mix => k_is)
      (case a__law_tiles => k_is)
      (case l__law_tiles => k_is)
      (case c__law_tiles => k_is)
      (case k__law_tiles => k_is)
      (case a__law_system => k_is)
      (case l__law_system => k_is)
      (case c__law_system => k_is)
      (case k__law_system => k_is)
      (case a__law_refusal => k_is)
      (case l__law_refusal => k_is)
      (case c__law_refusal => k_is)
      (case k__law_refusal => k_is)
      (case a__law_good => k_is)
      (case l__law_good => k_is)
      (case c__law_good => k_is)
      (case k__law_good => k_is)
      (case a__law_spoilt => k_is)
      (case l__law_spoilt => k_is)
      (case c__law_spoilt => k_is)
      (case k__law_spoilt => k_is)
      (case a__law_told => k_is)
      (case l__law_told => k_is)
      (case c__law_told => k_is)
      (case k__law_told => k_is)
      (case a_law => k_is)
      (case l_law => k_is)
      (case c_law => k_is)
      (case k_law => k_is)
      (case a_LETTERS => k_is)
      (case a_MOST_ROWS => k_is)
      (case a_MOST_COLUMNS => k_is)
      (case a_BORDER => k_is)
      (case a_MOST_MARKS => k_is)
      (case a_TILE_FIELDS => k_is)
      (case a_QuiltError => k_is)
      (case a_BadPicture => k_is)
      (case a_BadSize => k_is)
      (case a_BadSystem => k_is)
      (case a_BadText => k_is)
      (case a_Unlike => k_is)
      (case e_BadPicture => first | rfl | kernel_rfl)
      (case g1_BadPicture => k_is)
      (case g2_BadPicture => k_is)
      (case g3_BadPicture => k_is)
      (case g4_BadPicture => k_is)
      (case g5_BadPicture => k_is)
      (case e_BadSystem => first | rfl | kernel_rfl)
      (case g1_BadSystem => k_is)
      (case g2_BadSystem => k_is)
      (case g3_BadSystem => k_is)
      (case g4_BadSystem => k_is)
      (case g5_BadSystem => k_is)
      (case kk_BadPicture_BadPicture => kit_is)
      (case kk_BadPicture_BadSize => kit_is)
      (case kk_BadPicture_BadSystem => kit_is)
      (case kk_BadPicture_BadText => kit_is)
      (case kk_BadPicture_Unlike => kit_is)
      (case kk_BadPicture_ValueError => kit_is)
      (case kk_BadSystem_BadPicture => kit_is)
      (case kk_BadSystem_BadSize => kit_is)
      (case kk_BadSystem_BadSystem => kit_is)
      (case kk_BadSystem_BadText => kit_is)
      (case kk_BadSystem_Unlike => kit_is)
      (case kk_BadSystem_ValueError => kit_is)
      (case hh_BadPicture_QuiltError => kts_exm)
      (case hh_BadSystem_QuiltError => kts_exm)
      (case kkt_bool_bool => kit_is)
      (case kkt_str_bool => kit_is)
      (case kkt_NoneType_bool => kit_is)
      (case z_len => k_is)
      (case z_all => k_is)
      (case z_any => k_is)
      (case z_range => k_is)
      (case z_zip => k_is)
      (case z_isinstance => k_is)
      (case z_max => k_is)
      (case z_min => k_is)
      (case z_list => k_is)
      (case z_tuple => k_is)
      (case z_set => k_is)
      (case z_sorted => k_is)
      (case z_int => k_is)
      (case z_dict => k_is)
      (case z_bool => k_is)
      (case z_ValueError => k_is)
