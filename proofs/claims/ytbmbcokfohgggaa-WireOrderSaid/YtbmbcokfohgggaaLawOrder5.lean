/- WireOrder answers true for every input. -/
import Derived.Test.YtbmbcokfohgggaaWWorks
import Derived.Test.YtbmbcokfohgggaaBackMath
import Derived.Deep.Cut
import Derived.Deep.DeepCutAuto
namespace Go.Proofs.Ytbmbcokfohgggaa
open Go Go.RowKit

theorem empty_app (t : ByteArray) : (⟨#[]⟩ : ByteArray) ++ t = t := by
  apply ByteArray.ext
  simp [ByteArray.data_append]
set_option maxRecDepth 100000 in
set_option maxHeartbeats 4000000 in
theorem lawOrder5_any (a0 a1 p : Int) (w : World) (hp : 0 ≤ p ∧ p ≤ 255) : Calls Try.prog 6 #[.agg #[.int .i64 a0, .int .i64 a1], .int .u8 p] w (Res (.bool true) w) := by
  obtain ⟨c, hc, hc0, hc1⟩ : ∃ c, p.tmod 7 = c ∧ 0 ≤ c ∧ c < 7 := by
    refine ⟨_, rfl, ?_, ?_⟩ <;> rw [Int.tmod_eq_emod_of_nonneg hp.1] <;> omega
  have k0 := Keep.alloc (Keep.refl w) (.cells #[.int .i64 a0, .int .i64 a1] 30)
  go_enter Try.func6, Try.ntmps6
  go_upto_region 1 with fail
  have c0 : (w.alloc (.cells #[.int .i64 a0, .int .i64 a1] 30)).cell? ⟨w.heap.size, 0, none⟩ = some (.int .i64 a0) := by simp [go_sem]
  have c1 : (w.alloc (.cells #[.int .i64 a0, .int .i64 a1] 30)).cell? ⟨w.heap.size, 1, none⟩ = some (.int .i64 a1) := by simp [go_sem]
  generalize w.alloc (.cells #[.int .i64 a0, .int .i64 a1] 30) = W0 at *
  generalize w.heap.size = B at *
  go_upto_region 3 with (go_at_call 12; ((with_reducible refine (works_any _).mono ?_); rintro e' w9 ⟨rfl, k9⟩; replace c0 := k9.some c0; replace c1 := k9.some c1))
  have HK : Hid (Keep w w9) := Lib.hid (k0.trans k9)
  clear k0 k9
  go_cut [5] (fun v wx => ∃ K : Int, v = .int .i64 K ∧ 1 ≤ K ∧ K ≤ 7 ∧ wx = w9)
  case first =>
    go_wp2
    go_meet
    exact ⟨_, rfl, by omega, by omega, rfl⟩
  case rest =>
  obtain ⟨K, rfl, hK1, hK7, hw⟩ := hcut
  subst hw
  clear hc hc0 hc1
  go_upto_region 4 with fail
  go_cut [6, 7] (fun v6 v7 wx => ∃ x y : Int, v6 = .int .i64 x ∧ v7 = .int .i64 y ∧ Hid (0 ≤ x ∧ x < 256 ^ K.toNat) ∧ Hid (0 ≤ y ∧ y < 256 ^ K.toNat) ∧ Hid (Keep w wx))
  case first =>
    obtain rfl | rfl | rfl | rfl | rfl | rfl | rfl : K = 1 ∨ K = 2 ∨ K = 3 ∨ K = 4 ∨ K = 5 ∨ K = 6 ∨ K = 7 := by omega
    · obtain ⟨x, hx, hx0, hx1⟩ : ∃ x, (IntKind.u64.wrap a0).tmod 256 = x ∧ 0 ≤ x ∧ x < 256 := by
        have h := wrap_u64_nonneg a0
        refine ⟨_, rfl, ?_, ?_⟩ <;> rw [Int.tmod_eq_emod_of_nonneg h] <;> omega
      obtain ⟨y, hy, hy0, hy1⟩ : ∃ x, (IntKind.u64.wrap a1).tmod 256 = x ∧ 0 ≤ x ∧ x < 256 := by
        have h := wrap_u64_nonneg a1
        refine ⟨_, rfl, ?_, ?_⟩ <;> rw [Int.tmod_eq_emod_of_nonneg h] <;> omega
      go_region
      all_goals go_wp2
      all_goals go_meet
      all_goals exact ⟨x, y, rfl, rfl, Lib.hid ⟨hx0, by simpa using hx1⟩, Lib.hid ⟨hy0, by simpa using hy1⟩, Lib.hid (Keep.drew HK.out)⟩
    · obtain ⟨x, hx, hx0, hx1⟩ : ∃ x, (IntKind.u64.wrap a0).tmod 65536 = x ∧ 0 ≤ x ∧ x < 65536 := by
        have h := wrap_u64_nonneg a0
        refine ⟨_, rfl, ?_, ?_⟩ <;> rw [Int.tmod_eq_emod_of_nonneg h] <;> omega
      obtain ⟨y, hy, hy0, hy1⟩ : ∃ x, (IntKind.u64.wrap a1).tmod 65536 = x ∧ 0 ≤ x ∧ x < 65536 := by
        have h := wrap_u64_nonneg a1
        refine ⟨_, rfl, ?_, ?_⟩ <;> rw [Int.tmod_eq_emod_of_nonneg h] <;> omega
      go_region
      all_goals go_wp2
      all_goals go_meet
      all_goals exact ⟨x, y, rfl, rfl, Lib.hid ⟨hx0, by simpa using hx1⟩, Lib.hid ⟨hy0, by simpa using hy1⟩, Lib.hid (Keep.drew HK.out)⟩
    · obtain ⟨x, hx, hx0, hx1⟩ : ∃ x, (IntKind.u64.wrap a0).tmod 16777216 = x ∧ 0 ≤ x ∧ x < 16777216 := by
        have h := wrap_u64_nonneg a0
        refine ⟨_, rfl, ?_, ?_⟩ <;> rw [Int.tmod_eq_emod_of_nonneg h] <;> omega
      obtain ⟨y, hy, hy0, hy1⟩ : ∃ x, (IntKind.u64.wrap a1).tmod 16777216 = x ∧ 0 ≤ x ∧ x < 16777216 := by
        have h := wrap_u64_nonneg a1
        refine ⟨_, rfl, ?_, ?_⟩ <;> rw [Int.tmod_eq_emod_of_nonneg h] <;> omega
      go_region
      all_goals go_wp2
      all_goals go_meet
      all_goals exact ⟨x, y, rfl, rfl, Lib.hid ⟨hx0, by simpa using hx1⟩, Lib.hid ⟨hy0, by simpa using hy1⟩, Lib.hid (Keep.drew HK.out)⟩
    · obtain ⟨x, hx, hx0, hx1⟩ : ∃ x, (IntKind.u64.wrap a0).tmod 4294967296 = x ∧ 0 ≤ x ∧ x < 4294967296 := by
        have h := wrap_u64_nonneg a0
        refine ⟨_, rfl, ?_, ?_⟩ <;> rw [Int.tmod_eq_emod_of_nonneg h] <;> omega
      obtain ⟨y, hy, hy0, hy1⟩ : ∃ x, (IntKind.u64.wrap a1).tmod 4294967296 = x ∧ 0 ≤ x ∧ x < 4294967296 := by
        have h := wrap_u64_nonneg a1
        refine ⟨_, rfl, ?_, ?_⟩ <;> rw [Int.tmod_eq_emod_of_nonneg h] <;> omega
      go_region
      all_goals go_wp2
      all_goals go_meet
      all_goals exact ⟨x, y, rfl, rfl, Lib.hid ⟨hx0, by simpa using hx1⟩, Lib.hid ⟨hy0, by simpa using hy1⟩, Lib.hid (Keep.drew HK.out)⟩
    · obtain ⟨x, hx, hx0, hx1⟩ : ∃ x, (IntKind.u64.wrap a0).tmod 1099511627776 = x ∧ 0 ≤ x ∧ x < 1099511627776 := by
        have h := wrap_u64_nonneg a0
        refine ⟨_, rfl, ?_, ?_⟩ <;> rw [Int.tmod_eq_emod_of_nonneg h] <;> omega
      obtain ⟨y, hy, hy0, hy1⟩ : ∃ x, (IntKind.u64.wrap a1).tmod 1099511627776 = x ∧ 0 ≤ x ∧ x < 1099511627776 := by
        have h := wrap_u64_nonneg a1
        refine ⟨_, rfl, ?_, ?_⟩ <;> rw [Int.tmod_eq_emod_of_nonneg h] <;> omega
      go_region
      all_goals go_wp2
      all_goals go_meet
      all_goals exact ⟨x, y, rfl, rfl, Lib.hid ⟨hx0, by simpa using hx1⟩, Lib.hid ⟨hy0, by simpa using hy1⟩, Lib.hid (Keep.drew HK.out)⟩
    · obtain ⟨x, hx, hx0, hx1⟩ : ∃ x, (IntKind.u64.wrap a0).tmod 281474976710656 = x ∧ 0 ≤ x ∧ x < 281474976710656 := by
        have h := wrap_u64_nonneg a0
        refine ⟨_, rfl, ?_, ?_⟩ <;> rw [Int.tmod_eq_emod_of_nonneg h] <;> omega
      obtain ⟨y, hy, hy0, hy1⟩ : ∃ x, (IntKind.u64.wrap a1).tmod 281474976710656 = x ∧ 0 ≤ x ∧ x < 281474976710656 := by
        have h := wrap_u64_nonneg a1
        refine ⟨_, rfl, ?_, ?_⟩ <;> rw [Int.tmod_eq_emod_of_nonneg h] <;> omega
      go_region
      all_goals go_wp2
      all_goals go_meet
      all_goals exact ⟨x, y, rfl, rfl, Lib.hid ⟨hx0, by simpa using hx1⟩, Lib.hid ⟨hy0, by simpa using hy1⟩, Lib.hid (Keep.drew HK.out)⟩
    · obtain ⟨x, hx, hx0, hx1⟩ : ∃ x, (IntKind.u64.wrap a0).tmod 72057594037927936 = x ∧ 0 ≤ x ∧ x < 72057594037927936 := by
        have h := wrap_u64_nonneg a0
        refine ⟨_, rfl, ?_, ?_⟩ <;> rw [Int.tmod_eq_emod_of_nonneg h] <;> omega
      obtain ⟨y, hy, hy0, hy1⟩ : ∃ x, (IntKind.u64.wrap a1).tmod 72057594037927936 = x ∧ 0 ≤ x ∧ x < 72057594037927936 := by
        have h := wrap_u64_nonneg a1
        refine ⟨_, rfl, ?_, ?_⟩ <;> rw [Int.tmod_eq_emod_of_nonneg h] <;> omega
      go_region
      all_goals go_wp2
      all_goals go_meet
      all_goals exact ⟨x, y, rfl, rfl, Lib.hid ⟨hx0, by simpa using hx1⟩, Lib.hid ⟨hy0, by simpa using hy1⟩, Lib.hid (Keep.drew HK.out)⟩
  case rest =>
  clear c0 c1 HK
  obtain ⟨x, y, rfl, rfl, HX, HY, HK⟩ := hcut
  have HX0 : Hid (putS ⟨#[]⟩ x K = encS x K.toNat) := Lib.hid (by rw [(put_within ⟨#[]⟩ x K ⟨hK1, hK7⟩ HX.out).2, empty_app])
  have HX1 : Hid (putE x K = 0) := Lib.hid (put_within ⟨#[]⟩ x K ⟨hK1, hK7⟩ HX.out).1
  have HY0 : Hid (putS ⟨#[]⟩ y K = encS y K.toNat) := Lib.hid (by rw [(put_within ⟨#[]⟩ y K ⟨hK1, hK7⟩ HY.out).2, empty_app])
  have HY1 : Hid (putE y K = 0) := Lib.hid (put_within ⟨#[]⟩ y K ⟨hK1, hK7⟩ HY.out).1
  have hl := less_enc x y K.toNat
  have he := eq_enc x y K.toNat
  rw [Int.emod_eq_of_lt HX.out.1 HX.out.2, Int.emod_eq_of_lt HY.out.1 HY.out.2] at hl he
  have hl' : Op.bytesLess (encS x K.toNat).toList (encS y K.toNat).toList = decide (x < y) := by rw [ByteArray.toList_eq, ByteArray.toList_eq]; exact hl
  have he' : ((encS x K.toNat).toList == (encS y K.toNat).toList) = decide (x = y) := by rw [ByteArray.toList_eq, ByteArray.toList_eq]; exact he
  clear hl he
  generalize encS x K.toNat = tx at *
  generalize encS y K.toNat = ty at *
  rcases Int.lt_trichotomy x y with h | h | h
  · have q1 : decide (x < y) = true := decide_eq_true h
    have q2 : decide (x = y) = false := decide_eq_false (by omega)
    have q3 : (x == y) = false := by simp; omega
    rw [q1] at hl'
    rw [q2] at he'
    go_wp2_with (first | (go_at_call 8; ((with_reducible refine (wput_is ⟨#[]⟩ x K tx 0 _ (by decide) HX0 HX1).mono ?_); rintro e' w1 ⟨rfl, k1⟩)) | (go_at_call 8; ((with_reducible refine (wput_is ⟨#[]⟩ y K ty 0 _ (by decide) HY0 HY1).mono ?_); rintro e' w2 ⟨rfl, k2⟩)))
    go_ret
    exact ⟨rfl, (HK.out.trans k1).trans k2⟩
  · subst h
    have q1 : decide (x < x) = false := decide_eq_false (by omega)
    have q2 : decide (x = x) = true := decide_eq_true rfl
    rw [q1] at hl'
    rw [q2] at he'
    obtain rfl : tx = ty := HX0.out.symm.trans HY0.out
    go_wp2_with (first | (go_at_call 8; ((with_reducible refine (wput_is ⟨#[]⟩ x K tx 0 _ (by decide) HX0 HX1).mono ?_); rintro e' w1 ⟨rfl, k1⟩)) | (go_at_call 8; ((with_reducible refine (wput_is ⟨#[]⟩ y K ty 0 _ (by decide) HY0 HY1).mono ?_); rintro e' w2 ⟨rfl, k2⟩)))
    go_ret
    exact ⟨rfl, (HK.out.trans (by assumption)).trans k1⟩
  · have q1 : decide (x < y) = false := decide_eq_false (by omega)
    have q2 : decide (x = y) = false := decide_eq_false (by omega)
    have q3 : (x == y) = false := by simp; omega
    have q4 : y ≤ x := by omega
    rw [q1] at hl'
    rw [q2] at he'
    go_wp2_with (first | (go_at_call 8; ((with_reducible refine (wput_is ⟨#[]⟩ x K tx 0 _ (by decide) HX0 HX1).mono ?_); rintro e' w1 ⟨rfl, k1⟩)) | (go_at_call 8; ((with_reducible refine (wput_is ⟨#[]⟩ y K ty 0 _ (by decide) HY0 HY1).mono ?_); rintro e' w2 ⟨rfl, k2⟩)))
    go_ret
    exact ⟨rfl, (HK.out.trans k1).trans k2⟩
end Go.Proofs.Ytbmbcokfohgggaa
