/- Frames of a conforming trace that leave in order, each at most d after its arrival, conform to the grown bucket: plain facts on lists. Nothing is said of the program here. -/
import Derived.Test.YtmamadgikjkjdaaLawWaits
namespace Go.Proofs.Ytmamadgikjkjdaa
open Go Go.RowKit

/-- The time at which the last of k frames leaves, when frame k is kept back by v k at most. -/
def lastO (a v : Nat → Int) : Nat → Int
  | 0 => 0
  | k + 1 => max (lastO a v k) (a k + v k)
theorem lastO_bd {a v : Nat → Int} {n : Nat} {d : Int} (ha : ∀ k, k < n → 0 ≤ a k) (hm : ∀ j, j < n → ∀ i, i ≤ j → a i ≤ a j) (hv : ∀ k, k < n → 0 ≤ v k ∧ v k ≤ d) : ∀ k, k < n → a k ≤ lastO a v (k + 1) ∧ lastO a v (k + 1) ≤ a k + d
  | 0, hk => by
    have h1 := ha 0 hk
    have h2 := hv 0 hk
    simp only [lastO]
    omega
  | k + 1, hk => by
    have ih := lastO_bd ha hm hv k (by omega)
    have h1 := hm (k + 1) hk k (by omega)
    have h2 := hv (k + 1) hk
    have e : lastO a v (k + 1 + 1) = max (lastO a v (k + 1)) (a (k + 1) + v (k + 1)) := rfl
    rw [e]
    omega
def outL (c : List (Int × Int)) (v : Nat → Int) (i : Nat) : List (Int × Int) := (List.range c.length).map fun k => (if k < i then lastO (atL c) v (k + 1) else atL c k, szL c k)
theorem outL_len (c : List (Int × Int)) (v : Nat → Int) (i : Nat) : (outL c v i).length = c.length := by simp [outL]
theorem outL_at (c : List (Int × Int)) (v : Nat → Int) (i : Nat) {k : Nat} (h : k < c.length) : atL (outL c v i) k = (if k < i then lastO (atL c) v (k + 1) else atL c k) ∧ szL (outL c v i) k = szL c k := by
  unfold outL
  constructor
  · simp [atL, List.getD, h]
  · simp [szL, List.getD, h]
theorem cellsL_ext {l m : List (Int × Int)} (hl : l.length = m.length) (h : ∀ k, k < l.length → atL l k = atL m k ∧ szL l k = szL m k) : cellsL l = cellsL m := by
  apply List.ext_getElem?
  intro j
  rcases Nat.lt_or_ge j (l.length * 2) with hj | hj
  · obtain ⟨k, hk | hk⟩ : ∃ k, j = k * 2 ∨ j = k * 2 + 1 := ⟨j / 2, by omega⟩
    · subst hk
      rw [(cellsL_at l k (by omega)).1, (cellsL_at m k (by omega)).1, (h k (by omega)).1]
    · subst hk
      rw [(cellsL_at l k (by omega)).2, (cellsL_at m k (by omega)).2, (h k (by omega)).2]
  · rw [List.getElem?_eq_none (by rw [cellsL_len]; omega), List.getElem?_eq_none (by rw [cellsL_len]; omega)]
theorem outL_zero (c : List (Int × Int)) (v : Nat → Int) : cellsL (outL c v 0) = cellsL c := cellsL_ext (outL_len c v 0) fun k hk => by
  have := outL_at c v 0 (k := k) (by rw [outL_len] at hk; exact hk)
  simpa using this
theorem outL_set (c : List (Int × Int)) (v : Nat → Int) {i : Nat} (hi : i < c.length) : (cellsL (outL c v i)).set (i * 2) (.int .i64 (lastO (atL c) v (i + 1))) = cellsL (outL c v (i + 1)) := by
  have l1 := outL_len c v i
  have l2 := outL_len c v (i + 1)
  apply List.ext_getElem?
  intro j
  rw [List.getElem?_set]
  rcases Nat.lt_or_ge j (c.length * 2) with hj | hj
  · obtain ⟨k, hk | hk⟩ : ∃ k, j = k * 2 ∨ j = k * 2 + 1 := ⟨j / 2, by omega⟩
    · subst hk
      rw [(cellsL_at (outL c v (i + 1)) k (by omega)).1, (outL_at c v (i + 1) (k := k) (by omega)).1]
      by_cases hik : i = k
      · subst hik
        rw [if_pos rfl, if_pos (by rw [cellsL_len]; omega), if_pos (by omega)]
      · rw [if_neg (by omega), (cellsL_at (outL c v i) k (by omega)).1, (outL_at c v i (k := k) (by omega)).1]
        by_cases h : k < i
        · rw [if_pos h, if_pos (by omega)]
        · rw [if_neg h, if_neg (by omega)]
    · subst hk
      rw [if_neg (by omega), (cellsL_at (outL c v (i + 1)) k (by omega)).2, (outL_at c v (i + 1) (k := k) (by omega)).2, (cellsL_at (outL c v i) k (by omega)).2, (outL_at c v i (k := k) (by omega)).2]
  · rw [if_neg (by omega), List.getElem?_eq_none (by rw [cellsL_len]; omega), List.getElem?_eq_none (by rw [cellsL_len]; omega)]
/-- All frames have left: their times are the last ones. -/
theorem outL_all {c : List (Int × Int)} {v : Nat → Int} {k : Nat} (h : k < c.length) : atL (outL c v c.length) k = lastO (atL c) v (k + 1) := by rw [(outL_at c v c.length h).1, if_pos h]
theorem okT_out {c : List (Int × Int)} {v : Nat → Int} {D : Int} (hc : okT c = true) (hv : ∀ k, k < c.length → 0 ≤ v k ∧ v k ≤ D) (hT : ∀ k, k < c.length → atL c k + D ≤ 1099511627776) : okT (outL c v c.length) = true := by
  have hk := okT_iff.1 hc
  have bd := fun k h => okSteps_bd hk.2 k h
  have lb := lastO_bd (fun k h => (bd k h).1) (fun j h i hi => okSteps_mono hk.2 j h i hi) hv
  refine okT_iff.2 ⟨by rw [outL_len]; exact hk.1, okSteps_iff.2 fun k h => ?_⟩
  rw [outL_len] at h
  unfold okStep
  rw [decide_eq_true_eq, outL_all h, (outL_at c v c.length h).2]
  have h1 := lb k h
  have h2 := hT k h
  have h3 := bd k h
  refine ⟨?_, by omega, h3.2.2.2.2.1, h3.2.2.2.2.2⟩
  cases k with
  | zero => show (0 : Int) ≤ _; omega
  | succ k =>
    show atL (outL c v c.length) k ≤ _
    rw [outL_all (by omega)]
    show _ ≤ max (lastO (atL c) v (k + 1)) _
    omega
theorem fits_out {c : List (Int × Int)} {v : Nat → Int} {X Y d q : Int} (hc : okT c = true) (hY : 0 ≤ Y) (hv : ∀ k, k < c.length → 0 ≤ v k ∧ v k ≤ d) (hq : Y * d ≤ q * 1048576) (hg : ∀ i j : Nat, i ≤ j → j < c.length → gapB X Y (atL c) (szL c) i j = true) : fitsL (X + q) Y (outL c v c.length) = true := by
  have hk := okT_iff.1 hc
  have bd := fun k h => okSteps_bd hk.2 k h
  have lb := lastO_bd (fun k h => (bd k h).1) (fun j h i hi => okSteps_mono hk.2 j h i hi) hv
  unfold fitsL
  refine fitsB_iff.2 fun j hj i hi => ?_
  rw [outL_len] at hj
  have g := hg i j hi hj
  unfold gapB at g ⊢
  rw [decide_eq_true_eq] at g ⊢
  rw [outL_all hj, outL_all (show i < c.length by omega)]
  rw [psum_congr (s := szL (outL c v c.length)) (t := szL c) (n := j + 1) (fun k h => (outL_at c v c.length (by omega)).2), psum_congr (s := szL (outL c v c.length)) (t := szL c) (n := i) (fun k h => (outL_at c v c.length (by omega)).2)]
  have h1 := (lb j hj).1
  have h2 := (lb i (by omega)).2
  have h3 := Int.mul_le_mul_of_nonneg_left (show atL c j - atL c i - d ≤ lastO (atL c) v (j + 1) - lastO (atL c) v (i + 1) by omega) hY
  have e : Y * (atL c j - atL c i - d) = Y * (atL c j - atL c i) - Y * d := Int.mul_sub ..
  omega
theorem traceD_low {gs ss : List Int} (hg : ∀ z ∈ gs, 0 ≤ z ∧ z ≤ 65535) {m : Nat} (hm : m ≤ 30) : ∀ x ∈ traceD gs ss m, x.1 ≤ 1966050 := by
  intro x hx
  unfold traceD at hx
  rw [List.mem_map] at hx
  obtain ⟨k, hk, rfl⟩ := hx
  have hk := List.mem_range.1 hk
  have := atD_bd hg (k + 1)
  show atD gs (k + 1) ≤ _
  have : ((k + 1 : Nat) : Int) * 65535 ≤ 30 * 65535 := by omega
  omega
theorem confL_low {B R : Int} {l : List (Int × Int)} {T : Int} (h : ∀ x ∈ l, x.1 ≤ T) : ∀ k, k < (confL B R l).length → atL (confL B R l) k ≤ T := by
  intro k hk
  have hs := (confL_sublist B R l).subset
  have e : atL (confL B R l) k = ((confL B R l)[k]).1 := by unfold atL; simp [List.getD, List.getElem?_eq_getElem hk]
  rw [e]
  exact h _ (hs (List.getElem_mem hk))
theorem output_one {X Y S L d : Int} (hb : okBk X Y = true) (hd : delayR [(X, Y)] S L = (d, 0)) : outputR X Y S L = if okBk (X + ceilD (Y * d) 1048576) Y then ((X + ceilD (Y * d) 1048576, Y), 0) else ((0, 0), 6) := by
  have := hb
  unfold outputR
  rw [hd]
  simp
end Go.Proofs.Ytmamadgikjkjdaa
