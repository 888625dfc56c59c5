/- What Put and PutSigned return, the package's and the reference's. -/
import Derived.Test.YtbmbcokfohgggaaWPuts
namespace Go.Proofs.Ytbmbcokfohgggaa
open Go Go.RowKit

def putE (n k : Int) : Int := if 0 ≤ n ∧ 1 ≤ k ∧ k ≤ 7 then putC n k.toNat false else 2
def putS (s : ByteArray) (n k : Int) : ByteArray := if 0 ≤ n ∧ 1 ≤ k ∧ k ≤ 7 then putR s n k.toNat false else ⟨#[]⟩
def sputE (n k : Int) : Int := if 1 ≤ k ∧ k ≤ 8 then putC n k.toNat true else 2
def sputS (s : ByteArray) (n k : Int) : ByteArray := if 1 ≤ k ∧ k ≤ 8 then putR s n k.toNat true else ⟨#[]⟩

set_option maxRecDepth 100000 in
theorem limits_any (sgn : Bool) (w : World) : Calls Try.prog 26 #[.bool sgn] w fun e w' => ∃ b, e = .returned (.func (.func 32) #[] #[.pointer (some ⟨b, 0, none⟩)]) ∧ w'.cell? ⟨b, 0, none⟩ = some (.bool sgn) ∧ Keep w w' := by
  go_enter Try.func26, Try.ntmps26
  go_wp2
  go_ret
  exact ⟨_, rfl, by simp [go_sem], (Keep.refl w).alloc _⟩
theorem put_is (s : ByteArray) (n : Int) (k : Int) (sgn : Bool) (b : Nat) (w : World) (t : ByteArray) (e : Int) (hs : s.size ≤ 1000) (c0 : w.cell? ⟨b, 0, none⟩ = some (.bool sgn)) (h1 : 1 ≤ k) (h8 : k ≤ if sgn then 8 else 7)
    (HT : Hid (putR s n k.toNat sgn = t)) (HE : Hid (putC n k.toNat sgn = e)) :
    Calls Try.prog 25 #[.string s, .int .i64 n, .int .i64 k, .func (.func 32) #[] #[.pointer (some ⟨b, 0, none⟩)]] w (Str t e w) := by
  have := put_any s n k sgn b w hs c0 h1 h8
  rwa [HT.out, HE.out] at this

set_option maxRecDepth 100000 in
theorem wput_any (s : ByteArray) (n k : Int) (w : World) (hs : s.size ≤ 1000) : Calls Try.prog 8 #[.string s, .int .i64 n, .int .i64 k] w (Str (putS s n k) (putE n k) w) := by
  unfold putS putE
  by_cases h0 : n < 0
  · rw [if_neg (by omega), if_neg (by omega)]
    go_enter Try.func8, Try.ntmps8
    go_wp2
    go_ret2
    exact ⟨rfl, Keep.refl _⟩
  · by_cases hk : 1 ≤ k ∧ k ≤ 7
    · have HB : Hid (decide (1 ≤ k ∧ k ≤ 7) = true) := Lib.hid (decide_eq_true hk)
      rw [if_pos (by omega), if_pos (by omega)]
      obtain ⟨t, ht⟩ : ∃ t, putR s n k.toNat false = t := ⟨_, rfl⟩
      obtain ⟨e, he⟩ : ∃ e, putC n k.toNat false = e := ⟨_, rfl⟩
      rw [ht, he]
      have HT := Lib.hid ht
      have HE := Lib.hid he
      clear ht he
      go_enter Try.func8, Try.ntmps8
      go_wp2_with (first | (go_at_call 24; ((with_reducible refine (between_is _ _ _ _ _ HB).mono ?_); rintro e' w1 ⟨rfl, k1⟩)) | (go_at_call 26; ((with_reducible refine (limits_any false _).mono ?_); rintro e' w2 ⟨b, rfl, cb, k2⟩)) | (go_at_call 25; ((with_reducible refine (put_is s n k false b _ t e hs cb hk.1 (by simpa using hk.2) HT HE).mono ?_); rintro e' w3 ⟨rfl, k3⟩)))
      go_ret2
      exact ⟨rfl, (k1.trans k2).trans k3⟩
    · have HB : Hid (decide (1 ≤ k ∧ k ≤ 7) = false) := Lib.hid (decide_eq_false hk)
      rw [if_neg (by omega), if_neg (by omega)]
      clear hk
      go_enter Try.func8, Try.ntmps8
      go_wp2_with (go_at_call 24; ((with_reducible refine (between_is _ _ _ _ _ HB).mono ?_); rintro e' w1 ⟨rfl, k1⟩))
      go_ret2
      exact ⟨rfl, k1⟩
theorem wput_is (s : ByteArray) (n k : Int) (t : ByteArray) (e : Int) (w : World) (hs : s.size ≤ 1000) (HT : Hid (putS s n k = t)) (HE : Hid (putE n k = e)) : Calls Try.prog 8 #[.string s, .int .i64 n, .int .i64 k] w (Str t e w) := by
  have := wput_any s n k w hs
  rwa [HT.out, HE.out] at this

set_option maxRecDepth 100000 in
theorem wputSigned_any (s : ByteArray) (n k : Int) (w : World) (hs : s.size ≤ 1000) : Calls Try.prog 10 #[.string s, .int .i64 n, .int .i64 k] w (Str (sputS s n k) (sputE n k) w) := by
  unfold sputS sputE
  by_cases hk : 1 ≤ k ∧ k ≤ 8
  · have HB : Hid (decide (1 ≤ k ∧ k ≤ 8) = true) := Lib.hid (decide_eq_true hk)
    rw [if_pos (by omega), if_pos (by omega)]
    obtain ⟨t, ht⟩ : ∃ t, putR s n k.toNat true = t := ⟨_, rfl⟩
    obtain ⟨e, he⟩ : ∃ e, putC n k.toNat true = e := ⟨_, rfl⟩
    rw [ht, he]
    have HT := Lib.hid ht
    have HE := Lib.hid he
    clear ht he
    go_enter Try.func10, Try.ntmps10
    go_wp2_with (first | (go_at_call 24; ((with_reducible refine (between_is _ _ _ _ _ HB).mono ?_); rintro e' w1 ⟨rfl, k1⟩)) | (go_at_call 26; ((with_reducible refine (limits_any true _).mono ?_); rintro e' w2 ⟨b, rfl, cb, k2⟩)) | (go_at_call 25; ((with_reducible refine (put_is s n k true b _ t e hs cb hk.1 (by simpa using hk.2) HT HE).mono ?_); rintro e' w3 ⟨rfl, k3⟩)))
    go_ret2
    exact ⟨rfl, (k1.trans k2).trans k3⟩
  · have HB : Hid (decide (1 ≤ k ∧ k ≤ 8) = false) := Lib.hid (decide_eq_false hk)
    rw [if_neg (by omega), if_neg (by omega)]
    clear hk
    go_enter Try.func10, Try.ntmps10
    go_wp2_with (go_at_call 24; ((with_reducible refine (between_is _ _ _ _ _ HB).mono ?_); rintro e' w1 ⟨rfl, k1⟩))
    go_ret2
    exact ⟨rfl, k1⟩
theorem wputSigned_is (s : ByteArray) (n k : Int) (t : ByteArray) (e : Int) (w : World) (hs : s.size ≤ 1000) (HT : Hid (sputS s n k = t)) (HE : Hid (sputE n k = e)) : Calls Try.prog 10 #[.string s, .int .i64 n, .int .i64 k] w (Str t e w) := by
  have := wputSigned_any s n k w hs
  rwa [HT.out, HE.out] at this

set_option maxRecDepth 100000 in
theorem refPut_any (s : ByteArray) (n k : Int) (w : World) (hs : s.size ≤ 1000) (hn : I64 n) : Calls Try.prog 9 #[.string s, .int .i64 n, .int .i64 k] w (Str (putS s n k) (putE n k) w) := by
  unfold putS putE
  by_cases h0 : n < 0
  · rw [if_neg (by omega), if_neg (by omega)]
    go_enter Try.func9, Try.ntmps9
    go_wp2
    go_ret2
    exact ⟨rfl, Keep.refl _⟩
  · by_cases h1 : k < 1
    · rw [if_neg (by omega), if_neg (by omega)]
      go_enter Try.func9, Try.ntmps9
      go_wp2
      go_ret2
      exact ⟨rfl, Keep.refl _⟩
    · by_cases h7 : 7 < k
      · rw [if_neg (by omega), if_neg (by omega)]
        go_enter Try.func9, Try.ntmps9
        go_wp2
        go_ret2
        exact ⟨rfl, Keep.refl _⟩
      · rw [if_pos (by omega), if_pos (by omega)]
        unfold putR putC putOk limF
        obtain ⟨P, hP⟩ : ∃ P, (256 : Int) ^ k.toNat = P := ⟨_, rfl⟩
        have HP := Lib.hid hP
        simp only [Bool.false_eq_true, if_false, hP]
        clear hP
        by_cases hb : n < P
        · rw [decide_eq_true (⟨by omega, by omega⟩ : 0 ≤ n ∧ n ≤ P - 1)]
          simp only [if_true]
          obtain ⟨t, ht⟩ : ∃ t, encS n k.toNat = t := ⟨_, rfl⟩
          have hts : t.size ≤ 8 := by rw [← ht, encS_size]; omega
          rw [ht]
          have HT := Lib.hid ht
          clear ht
          have HN := Lib.hid hn
          clear hn
          go_enter Try.func9, Try.ntmps9
          go_wp2_with (first | (go_at_call 27; ((with_reducible refine (power_is k P _ (by omega) (by omega) HP).mono ?_); rintro e' w1 ⟨rfl, k1⟩)) | (go_at_call 28; ((with_reducible refine (refDigits_is n k t _ HN.out (by omega) (by omega) HT).mono ?_); rintro e' w2 ⟨rfl, k2⟩)))
          go_ret2
          exact ⟨rfl, k1.trans k2⟩
        · rw [decide_eq_false (show ¬ (0 ≤ n ∧ n ≤ P - 1) by omega)]
          simp only [Bool.false_eq_true, if_false]
          go_enter Try.func9, Try.ntmps9
          go_wp2_with (first | (go_at_call 27; ((with_reducible refine (power_is k P _ (by omega) (by omega) HP).mono ?_); rintro e' w1 ⟨rfl, k1⟩)))
          go_ret2
          exact ⟨rfl, k1⟩
theorem refPut_is (s : ByteArray) (n k : Int) (t : ByteArray) (e : Int) (w : World) (hs : s.size ≤ 1000) (hn : I64 n) (HT : Hid (putS s n k = t)) (HE : Hid (putE n k = e)) : Calls Try.prog 9 #[.string s, .int .i64 n, .int .i64 k] w (Str t e w) := by
  have := refPut_any s n k w hs hn
  rwa [HT.out, HE.out] at this

set_option maxRecDepth 100000 in
theorem refPutSigned_any (s : ByteArray) (n k : Int) (w : World) (hs : s.size ≤ 1000) (hn : I64 n) : Calls Try.prog 11 #[.string s, .int .i64 n, .int .i64 k] w (Str (sputS s n k) (sputE n k) w) := by
  unfold sputS sputE
  by_cases h1 : k < 1
  · rw [if_neg (by omega), if_neg (by omega)]
    go_enter Try.func11, Try.ntmps11
    go_wp2
    go_ret2
    exact ⟨rfl, Keep.refl _⟩
  · by_cases h7 : 8 < k
    · rw [if_neg (by omega), if_neg (by omega)]
      go_enter Try.func11, Try.ntmps11
      go_wp2
      go_ret2
      exact ⟨rfl, Keep.refl _⟩
    · rw [if_pos (by omega), if_pos (by omega)]
      unfold putR putC putOk limF
      simp only [if_true]
      obtain ⟨H, hP, hH⟩ := even_pow k.toNat (by omega)
      have HP := Lib.hid hP
      rw [show (256 : Int) ^ k.toNat / 2 = H by rw [hP]; omega]
      have hp7 : k ≤ 7 → 2 * H ≤ 72057594037927936 := fun h => by rw [← hP]; exact pow_7 (by omega)
      have hk8 : k = 8 → H = 9223372036854775808 := by
        intro h
        subst h
        have h2 : (256 : Int) ^ (8 : Int).toNat = 18446744073709551616 := by decide
        omega
      obtain ⟨t, ht⟩ : ∃ t, encS n k.toNat = t := ⟨_, rfl⟩
      have hts : t.size ≤ 8 := by rw [← ht, encS_size]; omega
      rw [ht]
      have HT := Lib.hid ht
      have HN := Lib.hid hn
      unfold I64 at hn
      clear ht hP
      by_cases h8 : k < 8
      · have hq1 : (2 * H).tdiv 2 = H := by rw [Int.tdiv_eq_ediv_of_nonneg (by omega)]; omega
        have hq2 : (-(2 * H)).tdiv 2 = -H := by rw [Int.neg_tdiv, hq1]
        have hp := hp7 (by omega)
        clear hp7 hk8
        by_cases ha : H ≤ n
        · rw [decide_eq_false (show ¬ (-H ≤ n ∧ n ≤ H - 1) by omega)]
          simp only [Bool.false_eq_true, if_false]
          go_enter Try.func11, Try.ntmps11
          go_wp2_with (first | (go_at_call 27; ((with_reducible refine (power_is k (2 * H) _ (by omega) (by omega) HP).mono ?_); rintro e' w1 ⟨rfl, k1⟩)))
          go_ret2
          exact ⟨rfl, k1⟩
        · by_cases hb : n < -H
          · rw [decide_eq_false (show ¬ (-H ≤ n ∧ n ≤ H - 1) by omega)]
            simp only [Bool.false_eq_true, if_false]
            go_enter Try.func11, Try.ntmps11
            go_wp2_with (first | (go_at_call 27; ((with_reducible refine (power_is k (2 * H) _ (by omega) (by omega) HP).mono ?_); rintro e' w1 ⟨rfl, k1⟩)))
            go_ret2
            exact ⟨rfl, Keep.trans (by assumption) k1⟩
          · rw [decide_eq_true (show (-H ≤ n ∧ n ≤ H - 1) by omega)]
            simp only [if_true]
            go_enter Try.func11, Try.ntmps11
            go_wp2_with (first | (go_at_call 27; ((with_reducible refine (power_is k (2 * H) _ (by omega) (by omega) HP).mono ?_); rintro e' w1 ⟨rfl, k1⟩)) | (go_at_call 28; ((with_reducible refine (refDigits_is n k t _ HN.out (by omega) (by omega) HT).mono ?_); rintro e' w2 ⟨rfl, k2⟩)))
            go_ret2
            exact ⟨rfl, (Keep.trans (by assumption) k1).trans k2⟩
      · have hh := hk8 (by omega)
        clear hk8 hp7
        rw [decide_eq_true (show (-H ≤ n ∧ n ≤ H - 1) by omega)]
        simp only [if_true]
        go_enter Try.func11, Try.ntmps11
        go_wp2_with (first | (go_at_call 28; ((with_reducible refine (refDigits_is n k t _ HN.out (by omega) (by omega) HT).mono ?_); rintro e' w2 ⟨rfl, k2⟩)))
        go_ret2
        exact ⟨rfl, k2⟩
theorem refPutSigned_is (s : ByteArray) (n k : Int) (t : ByteArray) (e : Int) (w : World) (hs : s.size ≤ 1000) (hn : I64 n) (HT : Hid (sputS s n k = t)) (HE : Hid (sputE n k = e)) : Calls Try.prog 11 #[.string s, .int .i64 n, .int .i64 k] w (Str t e w) := by
  have := refPutSigned_any s n k w hs hn
  rwa [HT.out, HE.out] at this
end Go.Proofs.Ytbmbcokfohgggaa
