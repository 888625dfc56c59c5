/- What Least of the reference returns, at every rate and trace. -/
import Derived.Test.YtmamadgikjkjdaaSearch
import Derived.BigQuiet
namespace Go.Proofs.Ytmamadgikjkjdaa
open Go Go.RowKit

theorem rightTrace_is (v : Value) (l : List (Int × Int)) (b : Bool) (w : World) (h : Hid (RowAt w v l)) (H : Hid (okT l = b)) : Calls Try.prog 66 #[v] w (Res (.bool b) w) := by
  have := rightTrace_any v l w h.out
  rwa [H.out] at this

/-- The greatest demand of the intervals that have been looked at: those that begin before i, and those that begin at i and end before j. -/
def Most (R : Int) (a s : Nat → Int) (n i j : Nat) (m : Int) : Prop :=
  1 ≤ m ∧ (∀ i' j', i' < i → i' ≤ j' → j' < n → need R a s i' j' ≤ m) ∧ (∀ j', i ≤ j' → j' < j → need R a s i j' ≤ m) ∧ (m = 1 ∨ ∃ i' j', i' ≤ j' ∧ j' < n ∧ need R a s i' j' = m)
theorem Most.done {R : Int} {a s : Nat → Int} {n j : Nat} {m : Int} (h : Most R a s n n j m) : leastS R a s n = m := by
  obtain ⟨h1, h2, _, h4⟩ := h
  have e1 : leastS R a s n ≤ m := leastS_le.2 ⟨h1, fun j hj i hi => h2 i j (by omega) hi hj⟩
  have e2 := leastS_le.1 (Int.le_refl (leastS R a s n))
  rcases h4 with rfl | ⟨i', j', h5, h6, h7⟩
  · omega
  · have := e2.2 j' h6 i' h5
    omega
theorem Most.line {R : Int} {a s : Nat → Int} {n i : Nat} {m : Int} (h : Most R a s n i n m) : Most R a s n (i + 1) (i + 1) m := by
  obtain ⟨h1, h2, h3, h4⟩ := h
  refine ⟨h1, fun i' j' a1 a2 a3 => ?_, fun j' a1 a2 => by omega, h4⟩
  rcases Nat.lt_or_ge i' i with h | h
  · exact h2 i' j' h a2 a3
  · obtain rfl : i' = i := by omega
    exact h3 j' a2 a3
theorem Most.next {R : Int} {a s : Nat → Int} {n i j : Nat} {m x : Int} (h : Most R a s n i j m) (hi : i ≤ j) (hj : j < n) (hx : max m (need R a s i j) = x) : Most R a s n i (j + 1) x := by
  obtain ⟨h1, h2, h3, h4⟩ := h
  refine ⟨by omega, fun i' j' a1 a2 a3 => by have := h2 i' j' a1 a2 a3; omega, fun j' a1 a2 => ?_, ?_⟩
  · rcases Nat.lt_or_ge j' j with h | h
    · have := h3 j' a1 h; omega
    · obtain rfl : j' = j := by omega
      omega
  · by_cases e : x = m
    · rw [e]; exact h4
    · refine Or.inr ⟨i, j, hi, hj, ?_⟩
      clear h1 h2 h3 h4
      omega

end Go.Proofs.Ytmamadgikjkjdaa
