/- What GetSigned returns, the package's and the reference's. -/
import Derived.Test.YtbmbcokfohgggaaWGets
namespace Go.Proofs.Ytbmbcokfohgggaa
open Go Go.RowKit

theorem wrap64_same (x : Int) : wrap64 x = IntKind.i64.wrap x := by
  unfold wrap64 IntKind.wrap
  simp [IntKind.bits, IntKind.signed]
  omega
theorem wrap_lo {x : Int} (h0 : 0 ≤ x) (h1 : x < 9223372036854775808) : IntKind.i64.wrap x = x := by
  unfold IntKind.wrap
  simp [IntKind.bits, IntKind.signed]
  omega
theorem wrap_hi {x : Int} (h0 : 9223372036854775808 ≤ x) (h1 : x < 18446744073709551616) : IntKind.i64.wrap x = x - 18446744073709551616 := by
  unfold IntKind.wrap
  simp [IntKind.bits, IntKind.signed]
  omega
/-- Shifting an encoding of k octets to the top of 64 bits, and back with its sign. -/
theorem top_bits (v : Int) (k : Nat) (P : Int) (hk1 : 1 ≤ k) (hk : k ≤ 8) (hv : 0 ≤ v ∧ v < 256 ^ k) (hP : P = 2 ^ (64 - 8 * k)) :
    0 ≤ v * P ∧ v * P < 18446744073709551616 ∧ IntKind.i64.wrap (v * P) / P = sg v k := by
  have : k = 1 ∨ k = 2 ∨ k = 3 ∨ k = 4 ∨ k = 5 ∨ k = 6 ∨ k = 7 ∨ k = 8 := by omega
  rcases this with rfl | rfl | rfl | rfl | rfl | rfl | rfl | rfl <;>
    (simp only [Nat.reduceMul, Nat.reduceSub, Int.reducePow] at hP hv
     subst hP
     refine ⟨by omega, by omega, ?_⟩
     unfold sg
     simp only [Int.reducePow]
     split
     · rw [wrap_lo (by omega) (by omega)]; omega
     · rw [wrap_hi (by omega) (by omega)]; omega)

set_option maxRecDepth 100000 in
theorem getSigned_any (s : ByteArray) (a k : Int) (w : World) (hs : s.size ≤ maxLen) (ha : I64 a) (hk : I64 k) : Calls Try.prog 15 #[.string s, .int .i64 a, .int .i64 k] w (Num (sgetV s a k) (sgetE s a k) w) := by
  unfold sgetV sgetE
  by_cases h1 : 1 ≤ k ∧ k ≤ 8
  · have HB : Hid (decide (1 ≤ k ∧ k ≤ 8) = true) := Lib.hid (decide_eq_true h1)
    rw [if_pos h1]
    obtain ⟨e, he⟩ : ∃ e, fieldE s a k = e := ⟨_, rfl⟩
    rw [he]
    by_cases h0 : e = 0
    · subst h0
      have HE := Lib.hid he
      obtain ⟨a0, k0, hb⟩ := field_zero he
      have HT : Hid (fieldS s a k = s.extract a.toNat (a + k).toNat) := Lib.hid (fieldS_ok he)
      have hl := pc_length a0 k0 hb
      have hv := pc_bd a0 k0 hb
      rw [if_pos rfl]
      generalize ht : s.extract a.toNat (a + k).toNat = t at HT
      have hpc : pc s a k = t.data.toList := by unfold pc; rw [ht]
      have hts : t.size ≤ 8 := by
        have : t.data.toList.length = t.size := rfl
        rw [hpc] at hl
        omega
      obtain ⟨v, hV⟩ : ∃ v, vl (pc s a k) = v := ⟨_, rfl⟩
      rw [hV] at hv ⊢
      have HV : Hid (vl t.data.toList = v) := Lib.hid (by rw [← hpc, hV])
      have hc : (2 : Int) ^ (64 - 8 * k.toNat) = 2 ^ (64 - 8 * k).toNat := by congr 1; omega
      obtain ⟨P, hP⟩ : ∃ P : Int, (2 : Int) ^ (64 - 8 * k.toNat) = P := ⟨_, rfl⟩
      obtain ⟨b1, b2, b3⟩ := top_bits v k.toNat P (by omega) (by omega) hv hP.symm
      rw [hP] at hc
      generalize hS : sg v k.toNat = S at b3 ⊢
      have hv0 := hv.1
      have hw1 : IntKind.u64.wrap (v * P) = v * P := by
        simp only [IntKind.wrap, IntKind.bits, IntKind.signed]
        simp
        omega
      have hmin : min (64 - 8 * k).toNat 64 = (64 - 8 * k).toNat := by omega
      have HF : Hid (S = wrap64 (IntKind.u64.wrap (v * 2 ^ (64 - 8 * k).toNat)) / 2 ^ (64 - 8 * k).toNat) := Lib.hid (by rw [← hc, hw1, ← b3]; rw [wrap64_same])
      clear hpc hl hV hv he ht hb hP hS hc b1 b2 b3 hw1
      have HTS := Lib.hid hts
      have HA := Lib.hid ha
      have HK := Lib.hid hk
      have HSS := Lib.hid hs
      clear hts ha hk hs
      go_enter Try.func15, Try.ntmps15
      go_wp2_with (first | (go_at_call 24; ((with_reducible refine (between_is _ _ _ _ _ HB).mono ?_); rintro e w1 ⟨rfl, k1⟩)) | (go_at_call 17; ((with_reducible refine (field_is s a k t 0 _ HSS.out HA.out HK.out HT HE).mono ?_); rintro e w2 ⟨rfl, k2⟩)) | (go_at_call 29; ((with_reducible refine (number_is t v _ HTS.out HV).mono ?_); rintro e w3 ⟨rfl, k3⟩)))
      go_ret2
      exact ⟨by rw [HF.out]; rfl, (k1.trans k2).trans k3⟩
    · have HE := Lib.hid he
      have HT : Hid (fieldS s a k = ⟨#[]⟩) := Lib.hid (fieldS_no (by rw [he]; exact h0))
      have hz : (e == 0) = false := by simp [h0]
      have hz2 : (e != 0) = true := by simp [h0]
      rw [if_neg h0]
      clear he h1
      go_enter Try.func15, Try.ntmps15
      go_wp2_with (first | (go_at_call 24; ((with_reducible refine (between_is _ _ _ _ _ HB).mono ?_); rintro e' w1 ⟨rfl, k1⟩)) | (go_at_call 17; ((with_reducible refine (field_is s a k _ e _ hs ha hk HT HE).mono ?_); rintro e' w2 ⟨rfl, k2⟩)))
      go_ret2
      exact ⟨rfl, k1.trans k2⟩
  · have HB : Hid (decide (1 ≤ k ∧ k ≤ 8) = false) := Lib.hid (decide_eq_false h1)
    rw [if_neg h1]
    clear h1
    go_enter Try.func15, Try.ntmps15
    go_wp2_with (go_at_call 24; ((with_reducible refine (between_is _ _ _ _ _ HB).mono ?_); rintro e' w1 ⟨rfl, k1⟩))
    go_ret2
    exact ⟨rfl, k1⟩
theorem getSigned_is (s : ByteArray) (a k v e : Int) (w : World) (hs : s.size ≤ maxLen) (ha : I64 a) (hk : I64 k) (HV : Hid (sgetV s a k = v)) (HE : Hid (sgetE s a k = e)) : Calls Try.prog 15 #[.string s, .int .i64 a, .int .i64 k] w (Num v e w) := by
  have := getSigned_any s a k w hs ha hk
  rwa [HV.out, HE.out] at this

set_option maxRecDepth 100000 in
theorem refGetSigned_any (s : ByteArray) (a k : Int) (w : World) (hs : s.size ≤ maxLen) : Calls Try.prog 16 #[.string s, .int .i64 a, .int .i64 k] w (Num (sgetV s a k) (sgetE s a k) w) := by
  unfold sgetV sgetE
  have HSS := Lib.hid hs
  by_cases h1 : a < 0
  · have e2 : (if 1 ≤ k ∧ k ≤ 8 then fieldE s a k else 2) = 2 := by
      split
      · exact field_bad s a k (Or.inl h1)
      · rfl
    rw [e2, if_neg (by decide)]
    clear e2 hs
    go_enter Try.func16, Try.ntmps16
    go_wp2
    go_ret2
    exact ⟨rfl, Keep.refl _⟩
  · by_cases h2 : k < 1
    · rw [show (if 1 ≤ k ∧ k ≤ 8 then fieldE s a k else 2) = 2 from if_neg (by omega), if_neg (by decide)]
      clear hs
      go_enter Try.func16, Try.ntmps16
      go_wp2
      go_ret2
      exact ⟨rfl, Keep.refl _⟩
    · by_cases h3 : 8 < k
      · rw [show (if 1 ≤ k ∧ k ≤ 8 then fieldE s a k else 2) = 2 from if_neg (by omega), if_neg (by decide)]
        clear hs
        go_enter Try.func16, Try.ntmps16
        go_wp2
        go_ret2
        exact ⟨rfl, Keep.refl _⟩
      · rw [show (if 1 ≤ k ∧ k ≤ 8 then fieldE s a k else 2) = fieldE s a k from if_pos (by omega)]
        cases hb : hasB s a k with
        | false =>
          rw [field_form s a k (by omega) (by omega) hb, if_neg (by decide)]
          have HB := Lib.hid hb
          clear hb hs
          go_enter Try.func16, Try.ntmps16
          go_wp2_with (go_at_call 30; ((with_reducible refine (has_is s a k _ _ HSS.out (by omega) HB).mono ?_); rintro e w1 ⟨rfl, k1⟩))
          go_ret2
          exact ⟨rfl, k1⟩
        | true =>
          rw [field_ok s a k (by omega) (by omega) hb, if_pos rfl]
          obtain ⟨m, rfl⟩ : ∃ m : Nat, (m : Int) = k := ⟨k.toNat, by omega⟩
          have HB := Lib.hid hb
          have hh := has_iff.1 hb
          unfold maxLen at hs
          clear hb
          -- the first octet
          have hf0 : a.toNat + 0 < s.size := by omega
          have hfirst := pc_at (by omega) (by omega) HB.out (show ((0 : Nat) : Int) < (m : Int) by omega) hf0
          obtain ⟨c, hc⟩ : ∃ c : Int, (s[a.toNat + 0].toNat : Int) = c := ⟨_, rfl⟩
          have hc1 : 0 ≤ c ∧ c < 256 := by have := s[a.toNat + 0].toNat_lt; omega
          have hidx0 := fun w => index_str s a _ w c (by omega) hf0 hc
          rw [hc] at hfirst
          have hv1 : vl ((pc s a m).take 1) = c := by simpa [vl] using hfirst
          have HF : Hid (sg (vl ((pc s a m).take 1)) 1 = if c < 128 then c else c - 256) := Lib.hid (by rw [hv1, sg_one])
          clear hfirst hv1 hc hf0
          have hcase : ∃ c', (if c < 128 then c else c - 256) = c' ∧ ((c < 128 ∧ c' = c) ∨ (128 ≤ c ∧ c' = c - 256)) := by
            refine ⟨_, rfl, ?_⟩
            split <;> omega
          obtain ⟨c', hc', hcc⟩ := hcase
          rw [hc'] at HF
          clear hc'
          rcases hcc with ⟨hlt0, rfl⟩ | ⟨hlt0, rfl⟩
          all_goals
            go_enter Try.func16, Try.ntmps16
            go_wp2_with (go_at_call 30; ((with_reducible refine (has_is s a m _ _ HSS.out (by omega) HB).mono ?_); rintro e w1 ⟨rfl, k1⟩))
            go_loop [8, 9] (fun n i => ∃ j : Nat, 1 ≤ j ∧ j ≤ m ∧ i = .int .i64 j ∧ n = .int .i64 (sg (vl ((pc s a m).take j)) j)) (fun _ i => m - (intOf i).toNat)
            case atStart => exact ⟨1, by omega, by omega, rfl, by rw [HF.out]⟩
            case round =>
              obtain ⟨j, hj1, hj, rfl, rfl⟩ := hrel
              by_cases hlt : j < m
              · have hv := vl_bd ((pc s a m).take j)
                have hbnd : a.toNat + j < s.size := by omega
                have hstep := pc_at (by omega) (by omega) HB.out (show (j : Int) < (m : Int) by omega) hbnd
                have hlen : ((pc s a m).take j).length = j := by rw [List.length_take, pc_length (by omega) (by omega) HB.out]; omega
                rw [hlen] at hv
                have hp := pow_7 (show j ≤ 7 by omega)
                have hsb := sg_bd hv
                obtain ⟨b, hb⟩ : ∃ b : Int, (s[a.toNat + j].toNat : Int) = b := ⟨_, rfl⟩
                have hb1 : 0 ≤ b ∧ b < 256 := by have := s[a.toNat + j].toNat_lt; omega
                have hss := sg_step (v := vl ((pc s a m).take j)) hj1 hb1
                have hidx := fun w => index_str s (a + j) _ w b (by omega) hbnd hb
                generalize hV : sg (vl ((pc s a m).take j)) j = v at *
                have HS : Hid (sg (vl ((pc s a m).take (j + 1))) (j + 1) = 256 * v + b) := Lib.hid (by rw [hstep, hb, hss])
                have hq0 : -36028797018963968 ≤ v := by omega
                have hq1 : v < 36028797018963968 := by omega
                clear hV hstep hlen hp hb hv hss hsb
                go_wp2
                go_round
                case rel => exact ⟨j + 1, by omega, by omega, by go_num, by rw [HS.out]⟩
                case measure => simp [intOf]; omega
              · obtain rfl : j = m := by omega
                have hV : (pc s a j).take j = pc s a j := List.take_of_length_le (by rw [pc_length (by omega) (by omega) HB.out]; omega)
                obtain ⟨v, hv⟩ : ∃ v, sg (vl (pc s a j)) j = v := ⟨_, rfl⟩
                rw [hV, hv]
                have HV := Lib.hid hv
                clear hV hv
                go_wp2
                go_ret2
                exact ⟨by rw [HV.out]; rfl, k1⟩
theorem refGetSigned_is (s : ByteArray) (a k v e : Int) (w : World) (hs : s.size ≤ maxLen) (HV : Hid (sgetV s a k = v)) (HE : Hid (sgetE s a k = e)) : Calls Try.prog 16 #[.string s, .int .i64 a, .int .i64 k] w (Num v e w) := by
  have := refGetSigned_any s a k w hs
  rwa [HV.out, HE.out] at this
end Go.Proofs.Ytbmbcokfohgggaa
