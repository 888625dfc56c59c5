/- The operations on 32 bits as integers. Nothing is said of the program here. -/
import Derived.Test.YtgejpbgpgklimaaCBits
import Derived.Laws.BitsAllLaws
import Derived.WalkKit
namespace Go.Proofs.Ytgejpbgpgklimaa
open Go Go.RowKit

theorem cv_xor (x y : BitVec 32) : bits .xor .u32 (cv x) (cv y) = cv (x ^^^ y) := by
  have hx := x.isLt
  have hy := y.isLt
  unfold cv
  rw [u32_xor_nat _ _ (by omega) (by omega), BitVec.toNat_xor]
theorem cv_and (x y : BitVec 32) : bits .and .u32 (cv x) (cv y) = cv (x &&& y) := by
  have hx := x.isLt
  have hy := y.isLt
  unfold cv
  rw [u32_and_nat _ _ (by omega) (by omega), BitVec.toNat_and]
theorem cv_or (x y : BitVec 32) : bits .or .u32 (cv x) (cv y) = cv (x ||| y) := by
  have hx := x.isLt
  have hy := y.isLt
  unfold cv
  rw [u32_or_nat _ _ (by omega) (by omega), BitVec.toNat_or]
theorem cv_shr (x : BitVec 32) (k : Nat) : cv x / 2 ^ k = cv (x >>> k) := by
  unfold cv
  rw [BitVec.toNat_ushiftRight, Nat.shiftRight_eq_div_pow]
  simp
theorem cv_not (x : BitVec 32) : 4294967295 - cv x = cv (~~~x) := by
  have hx := x.isLt
  unfold cv
  rw [BitVec.toNat_not]
  omega
theorem cv_one : cv 1#32 = 1 := by decide
theorem cv_zero : cv 0#32 = 0 := by decide
theorem cv_poly : cv poly = 3988292384 := by decide
theorem cv_lsb (x : BitVec 32) : bits .and .u32 (cv x) 1 = if x.getLsbD 0 then 1 else 0 := by
  rw [← cv_one, cv_and]
  have h : (x &&& 1#32).toNat = x.toNat % 2 := by
    rw [BitVec.toNat_and]
    exact Nat.and_two_pow_sub_one_eq_mod x.toNat 1
  unfold cv
  rw [h, BitVec.getLsbD, Nat.testBit_zero]
  rcases Nat.mod_two_eq_zero_or_one x.toNat with g | g <;> rw [g] <;> rfl
theorem step_lsb (x : BitVec 32) : step x = if x.getLsbD 0 then (x >>> 1) ^^^ poly else x >>> 1 := by
  unfold step
  cases x.getLsbD 0 <;> simp
end Go.Proofs.Ytgejpbgpgklimaa
