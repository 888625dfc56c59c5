/- BucketLevels' walk: the level, reckoned arrival by arrival, becomes negative exactly where First says so. Written by genlevels.py. -/
import Derived.Test.YtaknbjjcgcmdlaaWorks3
namespace Go.Proofs.Ytaknbjjcgcmdlaa
open Go Go.RowKit

theorem firstV_yes {B R : Int} {l : List (Int × Int)} {n : Int} (hb : okBk B R = true) (ht : okT l = true) (h : firstL B R l = n) : firstV B R l n = true := by
  unfold firstV firstR
  rw [if_pos hb, if_pos ht, h]
  simp
theorem fitsV_yes {B R : Int} {l : List (Int × Int)} (hb : okBk B R = true) (ht : okT l = true) : fitsV B R l = decide (firstL B R l < 0) := by
  unfold fitsV
  rw [hb, ht]
  unfold fitsL firstL
  rw [first_neg (atL_zero ht) (by have := okBk_iff.1 hb; omega)]
  rfl
theorem levNeg_iff {B R : Int} {a s : Nat → Int} {k : Nat} : levNeg B R a s k = true ↔ lev B R a s (k + 1) < 0 := by unfold levNeg; rw [decide_eq_true_eq]
/-- What the loop has found: nothing so far, or the first negative level behind it. -/
def Found (B R : Int) (a s : Nat → Int) (k : Nat) (L p bad : Int) : Prop :=
  (bad = -1 ∧ lev B R a s k = L ∧ prevAt a k = p ∧ ∀ j, j < k → levNeg B R a s j = false) ∨ (∃ i : Nat, bad = i ∧ i + 1 = k ∧ levNeg B R a s i = true ∧ ∀ j, j < i → levNeg B R a s j = false)

end Go.Proofs.Ytaknbjjcgcmdlaa
