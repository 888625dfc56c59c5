/- What step of the package crc returns. -/
import Derived.Test.YtgejpbgpgklimaaCVals
import Derived.Test.YtgejpbgpgklimaaWGets
namespace Go.Proofs.Ytgejpbgpgklimaa
open Go Go.RowKit

set_option maxRecDepth 100000 in
theorem step_any (c : Int) (w : World) (hc : 0 ≤ c ∧ c < 4294967296) : Calls Try.prog 83 #[.int .u32 c] w fun e w' => e = .returned (.int .u32 (cv (step (bvOf c)))) ∧ w' = w := by
  have e1 : c / 2 = cv (bvOf c >>> 1) := by have := cv_shr (bvOf c) 1; rwa [cv_bvOf hc] at this
  have e2 := cv_lsb (bvOf c)
  have e3 := step_lsb (bvOf c)
  rw [cv_bvOf hc] at e2
  rw [e3]
  clear e3
  cases h : (bvOf c).getLsbD 0 with
  | false =>
    rw [h] at e2
    simp only [Bool.false_eq_true, if_false] at e2 ⊢
    have e4 := cv_xor (bvOf c >>> 1) 0#32
    rw [BitVec.xor_zero, cv_zero, ← e1] at e4
    rw [← e1]
    clear h
    go_enter Try.func83, Try.ntmps83
    go_wp2
    go_ret
    exact ⟨congrArg (fun z => Ending.returned (.int .u32 z)) e4, rfl⟩
  | true =>
    rw [h] at e2
    simp only [if_true] at e2 ⊢
    have e4 := cv_xor (bvOf c >>> 1) poly
    rw [cv_poly, ← e1] at e4
    rw [← e4]
    clear h e4 e1
    go_enter Try.func83, Try.ntmps83
    go_wp2
    go_ret
    exact ⟨rfl, rfl⟩
theorem step_is (c r : Int) (w : World) (hc : 0 ≤ c ∧ c < 4294967296) (H : Hid (cv (step (bvOf c)) = r)) : Calls Try.prog 83 #[.int .u32 c] w fun e w' => e = .returned (.int .u32 r) ∧ w' = w := by
  have := step_any c w hc
  rwa [H.out] at this
end Go.Proofs.Ytgejpbgpgklimaa
