/- What the reference's Extend and Of return. -/
import Derived.Test.YtgejpbgpgklimaaCOcts
namespace Go.Proofs.Ytgejpbgpgklimaa
open Go Go.RowKit

theorem bit_val (x : BitVec 32) (o : UInt8) (m : Nat) : bits .and .u32 (bits .xor .u32 (cv x) ((o.toNat : Int) / 2 ^ m % 4294967296)) 1 = if (x.getLsbD 0 ^^ o.toNat.testBit m) then 1 else 0 := by
  have e : (o.toNat : Int) / 2 ^ m % 4294967296 = cv (BitVec.ofNat 32 (o.toNat / 2 ^ m)) := by
    unfold cv
    rw [BitVec.toNat_ofNat]
    simp
  rw [e, cv_xor, cv_lsb, BitVec.getLsbD_xor, BitVec.getLsbD_ofNat, Nat.testBit_div_two_pow]
  simp
theorem step1_val (x : BitVec 32) (t b : Bool) (h : (x.getLsbD 0 ^^ b) = t) : cv (step1 x b) = if t then bits .xor .u32 (cv x / 2) 3988292384 else cv x / 2 := by
  have e1 : cv x / (2 : Int) = cv (x >>> 1) := cv_shr x 1
  rw [e1, ← cv_poly, cv_xor]
  unfold step1
  rw [h]
  cases t <;> simp
theorem regB_take (d : BitVec 32) (o : UInt8) (m : Nat) (h : m < 8) : regB d ((bitsO o).take (m + 1)) = step1 (regB d ((bitsO o).take m)) (o.toNat.testBit m) := by
  have e : (bitsO o).take (m + 1) = (bitsO o).take m ++ [o.toNat.testBit m] := by
    rw [List.take_succ_eq_append_getElem (by rw [bitsO_length]; exact h)]
    simp [bitsO]
  rw [e, regB_append]
  rfl
set_option maxRecDepth 100000 in
set_option maxHeartbeats 1000000 in
theorem refExt_any (c : Int) (s : ByteArray) (w : World) (hc : 0 ≤ c ∧ c < 4294967296) (hs : s.size ≤ maxLen) : Calls Try.prog 60 #[.int .u32 c, .string s] w fun e w' => e = .returned (.int .u32 (cv (extB (bvOf c) s.data.toList))) ∧ w' = w := by
  unfold maxLen at hs
  have hN := not_val c hc
  go_enter Try.func60, Try.ntmps60
  go_wp2
  have HN := Lib.hid hN
  clear hN
  go_loop [0, 5, 6, 7] (fun c' i _ _ => ∃ k : Nat, k ≤ s.size ∧ i = .int .i64 k ∧ c' = .int .u32 (cv (reg (~~~bvOf c) (s.data.toList.take k)))) (fun _ i _ _ => s.size - (intOf i).toNat)
  case atStart => exact ⟨0, by omega, rfl, rfl⟩
  case round =>
    obtain ⟨k, hk, rfl, rfl⟩ := hrel
    obtain ⟨d, hd⟩ : ∃ d, reg (~~~bvOf c) (s.data.toList.take k) = d := ⟨_, rfl⟩
    rw [hd]
    by_cases hlt : k < s.size
    · obtain ⟨o, ho⟩ : ∃ o, s[k] = o := ⟨_, rfl⟩
      have HS : Hid (reg (~~~bvOf c) (s.data.toList.take (k + 1)) = oct d o) := Lib.hid (by rw [take_snoc s k hlt, reg_snoc, hd, ho])
      have HO := Lib.hid ho
      clear hd ho
      have hd1 : decide ((k : Int) < (s.size : Int)) = true := decide_eq_true (by omega)
      go_wp2
      go_loop [0, 6, 7] (fun c' i _ => ∃ m : Nat, m ≤ 8 ∧ i = .int .i64 m ∧ c' = .int .u32 (cv (regB d ((bitsO o).take m)))) (fun _ i _ => 8 - (intOf i).toNat)
      case atStart => exact ⟨0, by omega, rfl, rfl⟩
      case round =>
        obtain ⟨m, hm, rfl, rfl⟩ := hrel
        by_cases hm8 : m < 8
        · have hidx := fun w => index_str s k k w (o.toNat : Int) rfl hlt (by rw [HO.out])
          have hb := cv_bd (regB d ((bitsO o).take m))
          have ho := o.toNat_lt
          have ho' : 0 ≤ (o.toNat : Int) ∧ (o.toNat : Int) < 256 := by omega
          clear ho
          obtain ⟨t, ht⟩ : ∃ t, ((regB d ((bitsO o).take m)).getLsbD 0 ^^ o.toNat.testBit m) = t := ⟨_, rfl⟩
          have hy := bit_val (regB d ((bitsO o).take m)) o m
          have hs1 := step1_val (regB d ((bitsO o).take m)) t _ ht
          rw [ht] at hy
          rw [← regB_take d o m hm8] at hs1
          clear ht
          generalize (o.toNat : Int) = z at *
          generalize cv (regB d ((bitsO o).take m)) = D at *
          cases t with
          | true =>
            simp only [if_true] at hy hs1
            have H1 := Lib.hid hs1
            clear hs1
            go_wp2
            go_round
            case rel => exact ⟨m + 1, by omega, by go_num, by rw [H1.out]⟩
            case measure => simp [intOf]; omega
          | false =>
            simp only [Bool.false_eq_true, if_false] at hy hs1
            have H1 := Lib.hid hs1
            clear hs1
            go_wp2
            go_round
            case rel => exact ⟨m + 1, by omega, by go_num, by rw [H1.out]⟩
            case measure => simp [intOf]; omega
        · obtain rfl : m = 8 := by omega
          have hall : (bitsO o).take 8 = bitsO o := List.take_of_length_le (by rw [bitsO_length]; omega)
          have hl : oct d o = regB d (bitsO o) := rfl
          rw [hall, ← hl]
          clear hall hl
          generalize hr : cv (oct d o) = D
          have HR := Lib.hid hr
          clear hr
          go_wp2
          go_round
          case rel => exact ⟨k + 1, by omega, by go_num, by rw [HS.out, HR.out]⟩
          case measure => simp [intOf]; omega
    · obtain rfl : k = s.size := by omega
      have hall : s.data.toList.take s.size = s.data.toList := List.take_of_length_le (Nat.le_of_eq rfl)
      rw [hall] at hd
      have hD := not_val (cv d) (cv_bd d)
      rw [bvOf_cv] at hD
      have HE : Hid (cv (~~~d) = cv (extB (bvOf c) s.data.toList)) := Lib.hid (by unfold extB; rw [hd])
      generalize cv (~~~d) = D2 at *
      generalize cv d = D at *
      clear hd hall
      go_wp2
      go_ret
      exact ⟨by rw [← HE.out]; rfl, rfl⟩
theorem refExt_is (c r : Int) (s : ByteArray) (w : World) (hc : 0 ≤ c ∧ c < 4294967296) (hs : s.size ≤ maxLen) (H : Hid (cv (extB (bvOf c) s.data.toList) = r)) : Calls Try.prog 60 #[.int .u32 c, .string s] w (Res (.int .u32 r) w) := by
  have := refExt_any c s w hc hs
  rw [H.out] at this
  exact this.mono fun _ _ ⟨h1, h2⟩ => ⟨h1, by rw [h2]; exact Keep.refl _⟩
set_option maxRecDepth 100000 in
theorem refOf_is (r : Int) (s : ByteArray) (w : World) (hs : s.size ≤ maxLen) (H : Hid (cv (extB 0#32 s.data.toList) = r)) : Calls Try.prog 35 #[.string s] w (Res (.int .u32 r) w) := by
  have h0 : (0 : Int) ≤ 0 ∧ (0 : Int) < 4294967296 := by omega
  have H' : Hid (cv (extB (bvOf 0) s.data.toList) = r) := Lib.hid (by rw [show bvOf 0 = 0#32 by decide]; exact H.out)
  go_enter Try.func35, Try.ntmps35
  go_wp2_with (go_at_call 60; ((with_reducible refine (refExt_is 0 r s _ h0 hs H').mono ?_); rintro e w1 ⟨rfl, k1⟩))
  go_ret
  exact ⟨rfl, k1⟩
end Go.Proofs.Ytgejpbgpgklimaa
