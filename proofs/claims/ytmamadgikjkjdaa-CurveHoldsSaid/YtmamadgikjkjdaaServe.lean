/- What Check, slow and ceilMulDiv of the package curve return, and Right, Check, Ceil and Of of the reference. -/
import Derived.Test.YtmamadgikjkjdaaCalls
namespace Go.Proofs.Ytmamadgikjkjdaa
open Go Go.RowKit

/-- Services. -/
def okSv (R L : Int) : Bool := decide (1 ≤ R ∧ R ≤ 2097152 ∧ 0 ≤ L ∧ L ≤ 268435456)
theorem okSv_iff {R L : Int} : okSv R L = true ↔ 1 ≤ R ∧ R ≤ 2097152 ∧ 0 ≤ L ∧ L ≤ 268435456 := by unfold okSv; rw [decide_eq_true_eq]
def serveE (R L : Int) : Int := if okSv R L then 0 else 140
/-- A quotient rounded up. -/
def ceilD (n d : Int) : Int := -((-n) / d)
theorem ceilD_iff {n d q : Int} (hd : 0 < d) : ceilD n d ≤ q ↔ n ≤ q * d := by
  unfold ceilD
  have h : -q ≤ -n / d ↔ -q * d ≤ -n := Int.le_ediv_iff_mul_le hd
  rw [Int.neg_mul] at h
  constructor
  · intro h1
    have := h.1 (by omega)
    omega
  · intro h1
    have := h.2 (by omega)
    omega
theorem ceilD_le {n d q : Int} (hd : 0 < d) (h : n ≤ q * d) : ceilD n d ≤ q := (ceilD_iff hd).2 h
theorem le_ceilD {n d : Int} (hd : 0 < d) : n ≤ ceilD n d * d := (ceilD_iff hd).1 (Int.le_refl _)
theorem ceilD_lt {n d : Int} (hd : 0 < d) : ceilD n d * d < n + d := by
  have := mt (ceilD_iff (n := n) (q := ceilD n d - 1) hd).2 (by omega)
  have e : (ceilD n d - 1) * d = ceilD n d * d - d := by rw [Int.sub_mul, Int.one_mul]
  omega
theorem ceilD_nonneg {n d : Int} (hd : 0 < d) (h : 0 ≤ n) : 0 ≤ ceilD n d := by
  have h1 := le_ceilD (n := n) hd
  rcases Int.lt_or_le (ceilD n d) 0 with h2 | h2
  · have := Int.mul_neg_of_neg_of_pos h2 hd
    omega
  · exact h2
theorem ceilD_mono {n m d : Int} (hd : 0 < d) (h : n ≤ m) : ceilD n d ≤ ceilD m d := ceilD_le hd (Int.le_trans h (le_ceilD hd))
theorem ceilD_eq {n d q : Int} (hd : 0 < d) (h1 : n ≤ q * d) (h2 : q * d < n + d) : ceilD n d = q := by
  have a := ceilD_le hd h1
  have b := le_ceilD (n := n) hd
  rcases Int.lt_or_le (ceilD n d) q with h | h
  · have : (ceilD n d + 1) * d ≤ q * d := Int.mul_le_mul_of_nonneg_right (by omega) (by omega)
    rw [Int.add_mul, Int.one_mul] at this
    omega
  · omega

theorem serve_any (R L : Int) (w : World) : Calls Try.prog 30 #[.agg #[.int .i64 R, .int .i64 L]] w (Res (.int .i64 (serveE R L)) w) := by
  by_cases h1 : 1 ≤ R
  · skip
    by_cases h2 : R ≤ 2097152
    · skip
      by_cases h3 : 0 ≤ L
      · skip
        by_cases h4 : L ≤ 268435456
        · skip
          rw [show serveE R L = 0 from by unfold serveE okSv; rw [if_pos]; simp; omega]
          go_enter Try.func30, Try.ntmps30
          go_wp2
          go_ret
          exact ⟨rfl, keepOf (by go_grown)⟩
        · have h4' : 268435456 < L := by omega
          rw [show serveE R L = 140 from by unfold serveE okSv; rw [if_neg]; simp; omega]
          go_enter Try.func30, Try.ntmps30
          go_wp2
          go_ret
          exact ⟨rfl, keepOf (by go_grown)⟩
      · have h3' : L < 0 := by omega
        rw [show serveE R L = 140 from by unfold serveE okSv; rw [if_neg]; simp; omega]
        go_enter Try.func30, Try.ntmps30
        go_wp2
        go_ret
        exact ⟨rfl, keepOf (by go_grown)⟩
    · have h2' : 2097152 < R := by omega
      rw [show serveE R L = 140 from by unfold serveE okSv; rw [if_neg]; simp; omega]
      go_enter Try.func30, Try.ntmps30
      go_wp2
      go_ret
      exact ⟨rfl, keepOf (by go_grown)⟩
  · have h1' : R < 1 := by omega
    rw [show serveE R L = 140 from by unfold serveE okSv; rw [if_neg]; simp; omega]
    go_enter Try.func30, Try.ntmps30
    go_wp2
    go_ret
    exact ⟨rfl, keepOf (by go_grown)⟩
theorem rightSv_any (R L : Int) (w : World) : Calls Try.prog 55 #[.agg #[.int .i64 R, .int .i64 L]] w (Res (.bool (okSv R L)) w) := by
  by_cases h1 : 1 ≤ R
  · skip
    by_cases h2 : R ≤ 2097152
    · skip
      by_cases h3 : 0 ≤ L
      · skip
        by_cases h4 : L ≤ 268435456
        · skip
          rw [show okSv R L = true from by unfold okSv; simp; omega]
          go_enter Try.func55, Try.ntmps55
          go_wp2
          go_ret
          exact ⟨rfl, keepOf (by go_grown)⟩
        · have h4' : 268435456 < L := by omega
          rw [show okSv R L = false from by unfold okSv; simp; omega]
          go_enter Try.func55, Try.ntmps55
          go_wp2
          go_ret
          exact ⟨rfl, keepOf (by go_grown)⟩
      · have h3' : L < 0 := by omega
        rw [show okSv R L = false from by unfold okSv; simp; omega]
        go_enter Try.func55, Try.ntmps55
        go_wp2
        go_ret
        exact ⟨rfl, keepOf (by go_grown)⟩
    · have h2' : 2097152 < R := by omega
      rw [show okSv R L = false from by unfold okSv; simp; omega]
      go_enter Try.func55, Try.ntmps55
      go_wp2
      go_ret
      exact ⟨rfl, keepOf (by go_grown)⟩
  · have h1' : R < 1 := by omega
    rw [show okSv R L = false from by unfold okSv; simp; omega]
    go_enter Try.func55, Try.ntmps55
    go_wp2
    go_ret
    exact ⟨rfl, keepOf (by go_grown)⟩
theorem serve_is (R L E : Int) (w : World) (H : Hid (serveE R L = E)) : Calls Try.prog 30 #[.agg #[.int .i64 R, .int .i64 L]] w (Res (.int .i64 E) w) := by
  have := serve_any R L w
  rwa [H.out] at this
theorem rightSv_is (R L : Int) (b : Bool) (w : World) (H : Hid (okSv R L = b)) : Calls Try.prog 55 #[.agg #[.int .i64 R, .int .i64 L]] w (Res (.bool b) w) := by
  have := rightSv_any R L w
  rwa [H.out] at this
theorem refServe_any (R L : Int) (w : World) : Calls Try.prog 31 #[.agg #[.int .i64 R, .int .i64 L]] w (Res (.int .i64 (serveE R L)) w) := by
  cases h : okSv R L with
  | false =>
    have e : serveE R L = 140 := by unfold serveE; rw [h]; rfl
    rw [e]
    have H := Lib.hid h
    clear h e
    go_enter Try.func31, Try.ntmps31
    go_wp2_with (go_at_call 55; ((with_reducible refine (rightSv_is R L _ _ H).mono ?_); rintro e w1 ⟨rfl, k1⟩))
    go_ret
    exact ⟨rfl, Keep.trans (keepOf (by go_grown)) k1⟩
  | true =>
    have e : serveE R L = 0 := by unfold serveE; rw [h]; rfl
    rw [e]
    have H := Lib.hid h
    clear h e
    go_enter Try.func31, Try.ntmps31
    go_wp2_with (go_at_call 55; ((with_reducible refine (rightSv_is R L _ _ H).mono ?_); rintro e w1 ⟨rfl, k1⟩))
    go_ret
    exact ⟨rfl, Keep.trans (keepOf (by go_grown)) k1⟩
theorem refServe_is (R L E : Int) (w : World) (H : Hid (serveE R L = E)) : Calls Try.prog 31 #[.agg #[.int .i64 R, .int .i64 L]] w (Res (.int .i64 E) w) := by
  have := refServe_any R L w
  rwa [H.out] at this

/-- Ceil of the reference: n of at least 0, d of at least 1. -/
theorem ceil_any (n d : Int) (w : World) (hn : 0 ≤ n ∧ n ≤ 9223372036854775806) (hd : 1 ≤ d ∧ d ≤ 9223372036854775807) : Calls Try.prog 62 #[.int .i64 n, .int .i64 d] w fun e w' => e = .returned (.int .i64 (ceilD n d)) ∧ w' = w := by
  obtain ⟨q, hq⟩ : ∃ q, n / d = q := ⟨_, rfl⟩
  have hm := Int.emod_add_mul_ediv n d
  have hr0 := Int.emod_nonneg n (show d ≠ 0 by omega)
  have hr1 := Int.emod_lt_of_pos n (show 0 < d by omega)
  have hq0 : 0 ≤ q := by rw [← hq]; exact Int.ediv_nonneg hn.1 (by omega)
  have hq1 : q ≤ n := by rw [← hq]; exact Int.ediv_le_self _ hn.1
  rw [hq, Int.mul_comm] at hm
  obtain ⟨p, hp⟩ : ∃ p, q * d = p := ⟨_, rfl⟩
  rw [hp] at hm
  have hp0 : 0 ≤ p := by rw [← hp]; exact Int.mul_nonneg hq0 (by omega)
  have ht : n.tdiv d = q := by rw [Int.tdiv_eq_ediv_of_nonneg hn.1]; exact hq
  have hd0 : ¬ d = 0 := by omega
  by_cases hlt : p < n
  · have hc : ceilD n d = q + 1 := ceilD_eq (by omega) (by rw [Int.add_mul, Int.one_mul, hp]; omega) (by rw [Int.add_mul, Int.one_mul, hp]; omega)
    rw [hc]
    clear hm hr0 hr1 hc
    go_enter Try.func62, Try.ntmps62
    go_wp2
    go_ret
    exact ⟨rfl, rfl⟩
  · have hlt' : n ≤ p := by omega
    have hp1 : p ≤ n := by omega
    have hc : ceilD n d = q := ceilD_eq (by omega) (by rw [hp]; omega) (by rw [hp]; omega)
    rw [hc]
    clear hm hr0 hr1 hc
    go_enter Try.func62, Try.ntmps62
    go_wp2
    go_ret
    exact ⟨rfl, rfl⟩
theorem ceil_is (n d q : Int) (w : World) (hn : 0 ≤ n ∧ n ≤ 9223372036854775806) (hd : 1 ≤ d ∧ d ≤ 9223372036854775807) (H : Hid (ceilD n d = q)) : Calls Try.prog 62 #[.int .i64 n, .int .i64 d] w fun e w' => e = .returned (.int .i64 q) ∧ w' = w := by
  have := ceil_any n d w hn hd
  rwa [H.out] at this

theorem slow_is (B S R : Int) (b : Bool) (w : World) (H : Hid (decide (S ≤ R) = b)) : Calls Try.prog 79 #[.agg #[.int .i64 B, .int .i64 S], .int .i64 R] w (Res (.bool b) w) := by
  by_cases h : S ≤ R
  · obtain rfl : b = true := by rw [← H.out]; simp [h]
    clear H
    go_enter Try.func79, Try.ntmps79
    go_wp2
    go_ret
    exact ⟨rfl, keepOf (by go_grown)⟩
  · obtain rfl : b = false := by rw [← H.out]; simp [h]
    clear H
    have h' : R < S := by omega
    go_enter Try.func79, Try.ntmps79
    go_wp2
    go_ret
    exact ⟨rfl, keepOf (by go_grown)⟩

/-- MulDiv where all is in range: the quotient rounded up. -/
theorem ceilMulDiv_eq {a b c : Int} (ha : 0 ≤ a ∧ a ≤ 1125899906842624) (hb : 0 ≤ b ∧ b ≤ 1125899906842624) (hc : 1 ≤ c ∧ c ≤ 1125899906842624) (hq : ceilD (a * b) c ≤ 1125899906842624) : mulDivS (-a) b c = (-ceilD (a * b) c, true) := by
  have h0 := ceilD_nonneg (n := a * b) (d := c) (by omega) (Int.mul_nonneg ha.1 hb.1)
  unfold mulDivS
  rw [if_pos ⟨(inB_iff _).2 (by omega), (inB_iff _).2 (by omega), (inB_iff _).2 (by omega), by omega⟩]
  have e : -a * b / c = -ceilD (a * b) c := by unfold ceilD; rw [Int.neg_neg, Int.neg_mul]
  rw [e]
  unfold resS
  rw [if_pos ((inB_iff _).2 (by omega))]
theorem ceilMulDiv_is (a b c q : Int) (w : World) (ha : 0 ≤ a ∧ a ≤ 1125899906842624) (hb : 0 ≤ b ∧ b ≤ 1125899906842624) (hc : 1 ≤ c ∧ c ≤ 1125899906842624) (hq : q ≤ 1125899906842624) (H : Hid (ceilD (a * b) c = q)) :
    Calls Try.prog 81 #[.int .i64 a, .int .i64 b, .int .i64 c] w (Res (.int .i64 q) w) := by
  have hq0 : 0 ≤ q := by rw [← H.out]; exact ceilD_nonneg (by omega) (Int.mul_nonneg ha.1 hb.1)
  have HM : Hid (mulDivS (-a) b c = (-q, true)) := Lib.hid (by rw [ceilMulDiv_eq ha hb hc (by rw [H.out]; exact hq), H.out])
  clear H
  go_enter Try.func81, Try.ntmps81
  go_wp2_with (go_at_call 49; ((with_reducible refine (mulDiv_is (-a) b c (-q) true _ HM).mono ?_); rintro e w1 ⟨rfl, k1⟩))
  go_ret
  exact ⟨by simp, k1⟩

/-- Of of the reference. -/
theorem svOf_is (r l : Int) (w : World) (hr : 0 ≤ r ∧ r ≤ 4294967295) (hl : 0 ≤ l ∧ l ≤ 4294967295) (X Y : Int) (HX : Hid (1 + r % 2097152 = X)) (HY : Hid (l % 268435457 = Y)) :
    Calls Try.prog 27 #[.int .u32 r, .int .u32 l] w (Res (.agg #[.int .i64 X, .int .i64 Y]) w) := by
  have bX : 1 ≤ X ∧ X ≤ 2097152 := by have := HX.out; omega
  have bY : 0 ≤ Y ∧ Y ≤ 268435456 := by have := HY.out; omega
  go_enter Try.func27, Try.ntmps27
  go_wp2
  refine bodyPost_ret (v := .agg #[.int .i64 (1 + r % 2097152), .int .i64 (l % 268435457)]) (by simp [results, Try.results27, go_sem]) rfl ⟨by rw [HX.out, HY.out], Keep.alloc (Keep.refl w) _⟩

end Go.Proofs.Ytmamadgikjkjdaa
