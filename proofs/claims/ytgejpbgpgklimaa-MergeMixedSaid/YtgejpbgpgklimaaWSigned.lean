/- What GetSigned returns, the package's and the reference's. -/
import Derived.Test.YtgejpbgpgklimaaWGets
namespace Go.Proofs.Ytgejpbgpgklimaa
open Go Go.RowKit

theorem wrap64_same (x : Int) : wrap64 x = IntKind.i64.wrap x := by
  unfold wrap64 IntKind.wrap
  simp [IntKind.bits, IntKind.signed]
  omega
theorem wrap_lo {x : Int} (h0 : 0 ≤ x) (h1 : x < 9223372036854775808) : IntKind.i64.wrap x = x := by
  unfold IntKind.wrap
  simp [IntKind.bits, IntKind.signed]
  omega
theorem wrap_hi {x : Int} (h0 : 9223372036854775808 ≤ x) (h1 : x < 18446744073709551616) : IntKind.i64.wrap x = x - 18446744073709551616 := by
  unfold IntKind.wrap
  simp [IntKind.bits, IntKind.signed]
  omega
/-- Shifting an encoding of k octets to the top of 64 bits, and back with its sign. -/
theorem top_bits (v : Int) (k : Nat) (P : Int) (hk1 : 1 ≤ k) (hk : k ≤ 8) (hv : 0 ≤ v ∧ v < 256 ^ k) (hP : P = 2 ^ (64 - 8 * k)) :
    0 ≤ v * P ∧ v * P < 18446744073709551616 ∧ IntKind.i64.wrap (v * P) / P = sg v k := by
  have : k = 1 ∨ k = 2 ∨ k = 3 ∨ k = 4 ∨ k = 5 ∨ k = 6 ∨ k = 7 ∨ k = 8 := by omega
  rcases this with rfl | rfl | rfl | rfl | rfl | rfl | rfl | rfl <;>
    (simp only [Nat.reduceMul, Nat.reduceSub, Int.reducePow] at hP hv
     subst hP
     refine ⟨by omega, by omega, ?_⟩
     unfold sg
     simp only [Int.reducePow]
     split
     · rw [wrap_lo (by omega) (by omega)]; omega
     · rw [wrap_hi (by omega) (by omega)]; omega)

end Go.Proofs.Ytgejpbgpgklimaa
