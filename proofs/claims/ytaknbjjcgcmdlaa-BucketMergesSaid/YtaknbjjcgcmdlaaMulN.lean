/- MulDiv and Mul at all integers, out of the walks. -/
import Derived.Test.YtaknbjjcgcmdlaaMul
namespace Go.Proofs.Ytaknbjjcgcmdlaa
open Go Go.RowKit

theorem mag_product (a b : Int) : (a.natAbs : Int) * (b.natAbs : Int) = a * b ∨ (a.natAbs : Int) * (b.natAbs : Int) = -(a * b) := by
  rw [← Int.natCast_mul, ← Int.natAbs_mul]
  generalize a * b = P
  omega

theorem mulDiv_yes (a b c : Int) (w : World) (ha : inB a = true) (hb : inB b = true) (hc : inB c = true) (h1 : 1 ≤ c) :
    Calls Try.prog 19 #[.int .i64 a, .int .i64 b, .int .i64 c] w (Pair (resS (a * b / c)) w) := by
  have H := Lib.hid (three_yes ha hb hc)
  have a1 := (inB_iff a).1 ha
  have b1 := (inB_iff b).1 hb
  have c1 := (inB_iff c).1 hc
  have hA' : 0 ≤ (a.natAbs : Int) ∧ (a.natAbs : Int) ≤ 1125899906842624 := by omega
  have hB' : 0 ≤ (b.natAbs : Int) ∧ (b.natAbs : Int) ≤ 1125899906842624 := by omega
  have sg := mag_product a b
  have snn : 0 ≤ a → 0 ≤ b → (a.natAbs : Int) * (b.natAbs : Int) = a * b := fun x y => by rw [Int.natAbs_of_nonneg x, Int.natAbs_of_nonneg y]
  have sneg : a < 0 → b < 0 → (a.natAbs : Int) * (b.natAbs : Int) = a * b := fun x y => by
    rw [Int.ofNat_natAbs_of_nonpos (by omega), Int.ofNat_natAbs_of_nonpos (by omega), Int.neg_mul_neg]
  have sm1 : 0 ≤ a → b < 0 → (a.natAbs : Int) * (b.natAbs : Int) = -(a * b) := fun x y => by
    rw [Int.natAbs_of_nonneg x, Int.ofNat_natAbs_of_nonpos (by omega), Int.mul_neg]
  have sm2 : a < 0 → 0 ≤ b → (a.natAbs : Int) * (b.natAbs : Int) = -(a * b) := fun x y => by
    rw [Int.ofNat_natAbs_of_nonpos (by omega), Int.natAbs_of_nonneg y, Int.neg_mul]
  obtain ⟨A, hA⟩ : ∃ z, (a.natAbs : Int) = z := ⟨_, rfl⟩
  obtain ⟨B, hB⟩ : ∃ z, (b.natAbs : Int) = z := ⟨_, rfl⟩
  rw [hA] at hA' sg snn sneg sm1 sm2
  rw [hB] at hB' sg snn sneg sm1 sm2
  have p0 : 0 ≤ A * B := Int.mul_nonneg hA'.1 hB'.1
  have p1 : A * B ≤ 1125899906842624 * 1125899906842624 := Int.mul_le_mul hA'.2 hB'.2 hB'.1 (by omega)
  have dm := Int.mul_ediv_add_emod (A * B) c
  have dm1 := Int.emod_nonneg (A * B) (show c ≠ 0 by omega)
  have dm2 := Int.emod_lt_of_pos (A * B) (show 0 < c by omega)
  have dq : 0 ≤ A * B / c := Int.ediv_nonneg p0 (by omega)
  obtain ⟨P, hP⟩ : ∃ z, A * B = z := ⟨_, rfl⟩
  rw [hP] at sg snn sneg sm1 sm2 p0 p1 dm dm1 dm2 dq
  obtain ⟨hi, hhi⟩ : ∃ z, P / 18446744073709551616 = z := ⟨_, rfl⟩
  obtain ⟨lo, hlo⟩ : ∃ z, P % 18446744073709551616 = z := ⟨_, rfl⟩
  obtain ⟨Q, hQ⟩ : ∃ z, P / c = z := ⟨_, rfl⟩
  obtain ⟨R, hR⟩ : ∃ z, P % c = z := ⟨_, rfl⟩
  rw [hQ] at dm dq
  rw [hR] at dm dm1 dm2
  have e0 : Q * c + R = P := by rw [Int.mul_comm]; exact dm
  have eP : hi * 18446744073709551616 + lo = P := by omega
  have e1 : hi * 18446744073709551616 + lo = A * B := by rw [hP]; exact eP
  have e2 : Q * c + R = hi * 18446744073709551616 + lo := by rw [eP]; exact e0
  have hh : 0 ≤ hi ∧ hi ≤ 68719476736 := by omega
  have hl : 0 ≤ lo ∧ lo ≤ 18446744073709551615 := by omega
  have hl' : 0 ≤ lo ∧ lo < 18446744073709551616 := by omega
  have sg' : Q * c + R = a * b ∨ Q * c + R = -(a * b) := by rw [e0]; exact sg
  by_cases hc1 : c ≤ hi
  · have big : 1125899906842624 < Q := by
      rcases Int.lt_or_le 1125899906842624 Q with h | h
      · exact h
      · exfalso
        have m := Int.mul_le_mul_of_nonneg_right h (show 0 ≤ c by omega)
        omega
    rw [res_big (a * b) c Q R sg' dm1 dm2 big]
    exact mulDiv_high a b c A B hi lo w H a1 b1 ⟨h1, c1.2⟩ (Lib.hid hA) (Lib.hid hB) hA' hB' hh hl (Lib.hid e1) (Lib.hid hl') hc1
  · have hQ2 : Q ≤ 18446744073709551615 := by
      rcases Int.lt_or_le 18446744073709551615 Q with h | h
      · exfalso
        have m := Int.mul_le_mul_of_nonneg_right (show 18446744073709551616 ≤ Q by omega) (show 0 ≤ c by omega)
        omega
      · exact h
    by_cases hg : 1125899906842624 < Q
    · rw [res_big (a * b) c Q R sg' dm1 dm2 hg]
      exact mulDiv_great a b c A B hi lo Q R w H a1 b1 ⟨h1, c1.2⟩ (Lib.hid hA) (Lib.hid hB) hA' hB' hh hl (Lib.hid e1) (Lib.hid hl') (Lib.hid e2) (Lib.hid ⟨dm1, dm2⟩) ⟨dm1, by omega⟩ ⟨dq, hQ2⟩ (by omega) hg
    · by_cases sa : a < 0
      · by_cases sb : b < 0
        · rw [← floor_same (a * b) c Q R (by rw [e0]; exact sneg sa sb) dm1 dm2]
          exact mulDiv_nn a b c A B hi lo Q R w H a1 b1 ⟨h1, c1.2⟩ (Lib.hid hA) (Lib.hid hB) hA' hB' hh hl (Lib.hid e1) (Lib.hid hl') (Lib.hid e2) (Lib.hid ⟨dm1, dm2⟩) ⟨dm1, by omega⟩ ⟨dq, hQ2⟩ (by omega) (by omega) sa (by simpa using sa) sb (by simpa using sb)
        · by_cases hz : 0 < R
          · rw [← floor_neg1 (a * b) c Q R (by rw [e0]; exact sm2 sa (by omega)) hz dm2]
            exact mulDiv_np1 a b c A B hi lo Q R w H a1 b1 ⟨h1, c1.2⟩ (Lib.hid hA) (Lib.hid hB) hA' hB' hh hl (Lib.hid e1) (Lib.hid hl') (Lib.hid e2) (Lib.hid ⟨dm1, dm2⟩) ⟨dm1, by omega⟩ ⟨dq, hQ2⟩ (by omega) (by omega) sa (by simpa using sa) sb (by simpa using sb) hz
          · rw [← floor_neg0 (a * b) c Q (by rw [← sm2 sa (by omega), ← e0]; omega) (by omega)]
            exact mulDiv_np0 a b c A B hi lo Q R w H a1 b1 ⟨h1, c1.2⟩ (Lib.hid hA) (Lib.hid hB) hA' hB' hh hl (Lib.hid e1) (Lib.hid hl') (Lib.hid e2) (Lib.hid ⟨dm1, dm2⟩) ⟨dm1, by omega⟩ ⟨dq, hQ2⟩ (by omega) (by omega) sa (by simpa using sa) sb (by simpa using sb) hz
      · by_cases sb : b < 0
        · by_cases hz : 0 < R
          · rw [← floor_neg1 (a * b) c Q R (by rw [e0]; exact sm1 (by omega) sb) hz dm2]
            exact mulDiv_pn1 a b c A B hi lo Q R w H a1 b1 ⟨h1, c1.2⟩ (Lib.hid hA) (Lib.hid hB) hA' hB' hh hl (Lib.hid e1) (Lib.hid hl') (Lib.hid e2) (Lib.hid ⟨dm1, dm2⟩) ⟨dm1, by omega⟩ ⟨dq, hQ2⟩ (by omega) (by omega) sa (by simpa using sa) sb (by simpa using sb) hz
          · rw [← floor_neg0 (a * b) c Q (by rw [← sm1 (by omega) sb, ← e0]; omega) (by omega)]
            exact mulDiv_pn0 a b c A B hi lo Q R w H a1 b1 ⟨h1, c1.2⟩ (Lib.hid hA) (Lib.hid hB) hA' hB' hh hl (Lib.hid e1) (Lib.hid hl') (Lib.hid e2) (Lib.hid ⟨dm1, dm2⟩) ⟨dm1, by omega⟩ ⟨dq, hQ2⟩ (by omega) (by omega) sa (by simpa using sa) sb (by simpa using sb) hz
        · rw [← floor_same (a * b) c Q R (by rw [e0]; exact snn (by omega) (by omega)) dm1 dm2]
          exact mulDiv_pp a b c A B hi lo Q R w H a1 b1 ⟨h1, c1.2⟩ (Lib.hid hA) (Lib.hid hB) hA' hB' hh hl (Lib.hid e1) (Lib.hid hl') (Lib.hid e2) (Lib.hid ⟨dm1, dm2⟩) ⟨dm1, by omega⟩ ⟨dq, hQ2⟩ (by omega) (by omega) sa (by simpa using sa) sb (by simpa using sb)

theorem mulDiv_any (a b c : Int) (w : World) : Calls Try.prog 19 #[.int .i64 a, .int .i64 b, .int .i64 c] w (Pair (mulDivS a b c) w) := by
  unfold mulDivS
  by_cases h : inB a = true ∧ inB b = true ∧ inB c = true ∧ 1 ≤ c
  · rw [if_pos h]; exact mulDiv_yes a b c w h.1 h.2.1 h.2.2.1 h.2.2.2
  · rw [if_neg h]; exact mulDiv_no a b c w h

end Go.Proofs.Ytaknbjjcgcmdlaa
