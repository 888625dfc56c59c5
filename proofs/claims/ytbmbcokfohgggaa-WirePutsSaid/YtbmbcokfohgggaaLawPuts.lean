/- WirePuts answers true for every input. -/
import Derived.Test.YtbmbcokfohgggaaWWorks
import Derived.Deep.Cut
import Derived.Deep.DeepCutAuto
namespace Go.Proofs.Ytbmbcokfohgggaa
open Go Go.RowKit

theorem i64_wrap64 (x : Int) : I64 (wrap64 x) := by unfold I64 wrap64; omega
theorem i64_shr {n : Int} (h : I64 n) (j : Nat) : I64 (n / 2 ^ j) := by
  unfold I64 at *
  have hp : (0 : Int) < 2 ^ j := Int.pow_pos (by omega)
  constructor
  · rw [Int.le_ediv_iff_mul_le hp]
    have := Int.mul_le_mul_of_nonneg_left (show (1 : Int) ≤ 2 ^ j by omega) (show (0 : Int) ≤ 9223372036854775808 by omega)
    omega
  · have h2 : n / 2 ^ j < 9223372036854775808 := by
      rw [Int.ediv_lt_iff_lt_mul hp]
      have := Int.mul_le_mul_of_nonneg_left (show (1 : Int) ≤ 2 ^ j by omega) (show (0 : Int) ≤ 9223372036854775808 by omega)
      omega
    omega
set_option maxRecDepth 100000 in
set_option maxHeartbeats 2000000 in
theorem lawPuts_any (s : ByteArray) (n p k : Int) (w : World) (hs : s.size ≤ maxLen) (hn : I64 n) (hp : 0 ≤ p ∧ p ≤ 255) (hk : I64 k) : Calls Try.prog 3 #[.string s, .int .i64 n, .int .u8 p, .int .i64 k] w (Res (.bool true) w) := by
  obtain ⟨y, hy, hy0, hy1⟩ : ∃ y, (IntKind.u64.wrap k).tmod 10 = y ∧ 0 ≤ y ∧ y < 10 := by
    have h := wrap_u64_nonneg k
    refine ⟨_, rfl, ?_, ?_⟩ <;> rw [Int.tmod_eq_emod_of_nonneg h] <;> omega
  obtain ⟨c, hc, hc0, hc1⟩ : ∃ c, p.tmod 64 = c ∧ 0 ≤ c ∧ c < 64 := by
    refine ⟨_, rfl, ?_, ?_⟩ <;> rw [Int.tmod_eq_emod_of_nonneg hp.1] <;> omega
  obtain ⟨d, hd, hd0, hd1⟩ : ∃ d, p.tmod 63 = d ∧ 0 ≤ d ∧ d < 63 := by
    refine ⟨_, rfl, ?_, ?_⟩ <;> rw [Int.tmod_eq_emod_of_nonneg hp.1] <;> omega
  have HI : Hid (∀ j : Nat, j < 3 → ∃ q : Int, Hid (I64 q) ∧ ∀ w', (Instr.index 23 (.agg #[.int .i64 k, .int .i64 y, .int .i64 (-1)]) (.int .i64 (j : Int))).run Try.prog w' = .ok (.int .i64 q) w') := Lib.hid fun j hj => by
    obtain rfl | rfl | rfl : j = 0 ∨ j = 1 ∨ j = 2 := by omega
    · exact ⟨k, Lib.hid hk, fun _ => by kernel_rfl⟩
    · exact ⟨y, Lib.hid (by unfold I64; omega), fun _ => by kernel_rfl⟩
    · exact ⟨-1, Lib.hid (by unfold I64; omega), fun _ => by kernel_rfl⟩
  obtain ⟨a1, ha1, H1⟩ : ∃ a, n / 2 ^ c.toNat = a ∧ Hid (I64 a) := ⟨_, rfl, Lib.hid (i64_shr hn _)⟩
  obtain ⟨a2, ha2, H2⟩ : ∃ a, wrap64 (2 ^ d.toNat) = a ∧ Hid (I64 a) := ⟨_, rfl, Lib.hid (i64_wrap64 _)⟩
  obtain ⟨a3, ha3, H3⟩ : ∃ a, wrap64 (a2 - 1) = a ∧ Hid (I64 a) := ⟨_, rfl, Lib.hid (i64_wrap64 _)⟩
  obtain ⟨a4, ha4, H4⟩ : ∃ a, wrap64 (-2 ^ c.toNat) = a ∧ Hid (I64 a) := ⟨_, rfl, Lib.hid (i64_wrap64 _)⟩
  obtain ⟨a5, ha5, H5⟩ : ∃ a, wrap64 (a4 - 1) = a ∧ Hid (I64 a) := ⟨_, rfl, Lib.hid (i64_wrap64 _)⟩
  have HJ : Hid (∀ j : Nat, j < 6 → ∃ q : Int, Hid (I64 q) ∧ ∀ w', (Instr.index 24 (.agg #[.int .i64 n, .int .i64 a1, .int .i64 a2, .int .i64 a3, .int .i64 a4, .int .i64 a5]) (.int .i64 (j : Int))).run Try.prog w' = .ok (.int .i64 q) w') := Lib.hid fun j hj => by
    obtain rfl | rfl | rfl | rfl | rfl | rfl : j = 0 ∨ j = 1 ∨ j = 2 ∨ j = 3 ∨ j = 4 ∨ j = 5 := by omega
    · exact ⟨n, Lib.hid hn, fun _ => by kernel_rfl⟩
    · exact ⟨a1, H1, fun _ => by kernel_rfl⟩
    · exact ⟨a2, H2, fun _ => by kernel_rfl⟩
    · exact ⟨a3, H3, fun _ => by kernel_rfl⟩
    · exact ⟨a4, H4, fun _ => by kernel_rfl⟩
    · exact ⟨a5, H5, fun _ => by kernel_rfl⟩
  have ha4' : wrap64 (-1 * 2 ^ c.toNat) = a4 := by rw [← ha4]; congr 1; omega
  have hsm := hs
  unfold maxLen at hsm
  clear hn hk
  by_cases h20 : (s.size : Int) ≤ 20
  · have HT20 : Hid (s.size ≤ 1000) := Lib.hid (by omega)
    clear hs
    go_enter Try.func3, Try.ntmps3
    go_wp2_with fail
    go_loopw [32] (fun i wr => ∃ j : Nat, j ≤ 3 ∧ i = .int .i64 (j : Int) ∧ Hid (Keep w wr)) (fun i _ => 3 - (intOf i).toNat)
    case atStart => exact ⟨0, by omega, rfl, Lib.hid (Keep.refl _)⟩
    case round =>
      obtain ⟨j, hj, rfl, G0⟩ := hrel
      by_cases hlt : j < 3
      · obtain ⟨q, HQ, hix⟩ := HI.out j hlt
        have hdj : decide ((j : Int) < 3) = true := decide_eq_true (by omega)
        go_upto_region 6 with fail
        clear hdj
        rw [ha2, ha3, ha4, ha5]
        generalize wr = W0 at *
        go_loopw [55] (fun i wr => ∃ l : Nat, l ≤ 6 ∧ i = .int .i64 (l : Int) ∧ Hid (Keep w wr)) (fun i _ => 6 - (intOf i).toNat)
        case atStart => exact ⟨0, by omega, rfl, G0⟩
        case round =>
          obtain ⟨l, hl, rfl, G1⟩ := hrel
          by_cases hlt2 : l < 6
          · obtain ⟨m, HM, hix2⟩ := HJ.out l hlt2
            obtain ⟨t1, ht1⟩ : ∃ v, putS s m q = v := ⟨_, rfl⟩
            obtain ⟨e1, he1⟩ : ∃ v, putE m q = v := ⟨_, rfl⟩
            obtain ⟨t2, ht2⟩ : ∃ v, sputS s m q = v := ⟨_, rfl⟩
            obtain ⟨e2, he2⟩ : ∃ v, sputE m q = v := ⟨_, rfl⟩
            have HT1 := Lib.hid ht1
            have HE1 := Lib.hid he1
            have HT2 := Lib.hid ht2
            have HE2 := Lib.hid he2
            clear ht1 he1 ht2 he2
            have hbe1 := beq_list t1
            have hbe2 := beq_list t2
            go_wp2_with (first | (go_at_call 8; ((with_reducible refine (wput_is s m q t1 e1 _ HT20.out HT1 HE1).mono ?_); rintro e' w1 ⟨rfl, k1⟩)) | (go_at_call 9; ((with_reducible refine (refPut_is s m q t1 e1 _ HT20.out HM.out HT1 HE1).mono ?_); rintro e' w2 ⟨rfl, k2⟩)) | (go_at_call 10; ((with_reducible refine (wputSigned_is s m q t2 e2 _ HT20.out HT2 HE2).mono ?_); rintro e' w3 ⟨rfl, k3⟩)) | (go_at_call 11; ((with_reducible refine (refPutSigned_is s m q t2 e2 _ HT20.out HM.out HT2 HE2).mono ?_); rintro e' w4 ⟨rfl, k4⟩)))
            go_roundw
            case rel => first | exact ⟨l + 1, by omega, by go_num, Lib.hid ((((G1.out.trans k1).trans k2).trans k3).trans k4)⟩ | ((repeat apply Exists.intro); exact ⟨⟨l + 1, by omega, by go_num, Lib.hid ((((G1.out.trans k1).trans k2).trans k3).trans k4)⟩, rfl⟩)
            case measure => simp [intOf]; omega
          · obtain rfl : l = 6 := by omega
            go_wp2
            go_roundw
            case rel => first | exact ⟨j + 1, by omega, by go_num, G1⟩ | ((repeat apply Exists.intro); exact ⟨⟨j + 1, by omega, by go_num, G1⟩, rfl⟩)
            case measure => simp [intOf]; omega
      · obtain rfl : j = 3 := by omega
        go_wp2_with (go_at_call 12; ((with_reducible refine (works_any _).mono ?_); rintro e' w9 ⟨rfl, k9⟩))
        go_ret
        exact ⟨rfl, G0.out.trans k9⟩
  · obtain ⟨t, ht⟩ : ∃ t, s.extract 0 20 = t := ⟨_, rfl⟩
    have hts : t.size ≤ 20 := by rw [← ht, ByteArray.size_extract]; omega
    have HT20 : Hid (t.size ≤ 1000) := Lib.hid (by omega)
    clear hs
    go_enter Try.func3, Try.ntmps3
    go_wp2_with fail
    go_loopw [32] (fun i wr => ∃ j : Nat, j ≤ 3 ∧ i = .int .i64 (j : Int) ∧ Hid (Keep w wr)) (fun i _ => 3 - (intOf i).toNat)
    case atStart => exact ⟨0, by omega, rfl, Lib.hid (Keep.refl _)⟩
    case round =>
      obtain ⟨j, hj, rfl, G0⟩ := hrel
      by_cases hlt : j < 3
      · obtain ⟨q, HQ, hix⟩ := HI.out j hlt
        have hdj : decide ((j : Int) < 3) = true := decide_eq_true (by omega)
        go_upto_region 6 with fail
        clear hdj
        rw [ha2, ha3, ha4, ha5]
        generalize wr = W0 at *
        go_loopw [55] (fun i wr => ∃ l : Nat, l ≤ 6 ∧ i = .int .i64 (l : Int) ∧ Hid (Keep w wr)) (fun i _ => 6 - (intOf i).toNat)
        case atStart => exact ⟨0, by omega, rfl, G0⟩
        case round =>
          obtain ⟨l, hl, rfl, G1⟩ := hrel
          by_cases hlt2 : l < 6
          · obtain ⟨m, HM, hix2⟩ := HJ.out l hlt2
            obtain ⟨t1, ht1⟩ : ∃ v, putS t m q = v := ⟨_, rfl⟩
            obtain ⟨e1, he1⟩ : ∃ v, putE m q = v := ⟨_, rfl⟩
            obtain ⟨t2, ht2⟩ : ∃ v, sputS t m q = v := ⟨_, rfl⟩
            obtain ⟨e2, he2⟩ : ∃ v, sputE m q = v := ⟨_, rfl⟩
            have HT1 := Lib.hid ht1
            have HE1 := Lib.hid he1
            have HT2 := Lib.hid ht2
            have HE2 := Lib.hid he2
            clear ht1 he1 ht2 he2
            have hbe1 := beq_list t1
            have hbe2 := beq_list t2
            go_wp2_with (first | (go_at_call 8; ((with_reducible refine (wput_is t m q t1 e1 _ HT20.out HT1 HE1).mono ?_); rintro e' w1 ⟨rfl, k1⟩)) | (go_at_call 9; ((with_reducible refine (refPut_is t m q t1 e1 _ HT20.out HM.out HT1 HE1).mono ?_); rintro e' w2 ⟨rfl, k2⟩)) | (go_at_call 10; ((with_reducible refine (wputSigned_is t m q t2 e2 _ HT20.out HT2 HE2).mono ?_); rintro e' w3 ⟨rfl, k3⟩)) | (go_at_call 11; ((with_reducible refine (refPutSigned_is t m q t2 e2 _ HT20.out HM.out HT2 HE2).mono ?_); rintro e' w4 ⟨rfl, k4⟩)))
            go_roundw
            case rel => first | exact ⟨l + 1, by omega, by go_num, Lib.hid ((((G1.out.trans k1).trans k2).trans k3).trans k4)⟩ | ((repeat apply Exists.intro); exact ⟨⟨l + 1, by omega, by go_num, Lib.hid ((((G1.out.trans k1).trans k2).trans k3).trans k4)⟩, rfl⟩)
            case measure => simp [intOf]; omega
          · obtain rfl : l = 6 := by omega
            go_wp2
            go_roundw
            case rel => first | exact ⟨j + 1, by omega, by go_num, G1⟩ | ((repeat apply Exists.intro); exact ⟨⟨j + 1, by omega, by go_num, G1⟩, rfl⟩)
            case measure => simp [intOf]; omega
      · obtain rfl : j = 3 := by omega
        go_wp2_with (go_at_call 12; ((with_reducible refine (works_any _).mono ?_); rintro e' w9 ⟨rfl, k9⟩))
        go_ret
        exact ⟨rfl, G0.out.trans k9⟩
end Go.Proofs.Ytbmbcokfohgggaa
