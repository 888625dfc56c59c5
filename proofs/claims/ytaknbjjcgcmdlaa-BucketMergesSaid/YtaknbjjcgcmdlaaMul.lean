/- What MulDiv and Mul of the package num return, for all integers: the floor of the exact quotient where it is in range. -/
import Derived.Test.YtaknbjjcgcmdlaaDivN
import Derived.Test.YtaknbjjcgcmdlaaRange
namespace Go.Proofs.Ytaknbjjcgcmdlaa
open Go Go.RowKit

theorem floor_same (P c Q R : Int) (e : Q * c + R = P) (h0 : 0 ≤ R) (h1 : R < c) : Q = P / c :=
  (((Int.ediv_emod_unique (show 0 < c by omega)).2 ⟨by rw [Int.mul_comm c Q]; omega, h0, h1⟩ : P / c = Q ∧ P % c = R).1).symm
theorem floor_neg0 (P c Q : Int) (e : Q * c = -P) (hc : 0 < c) : -Q = P / c :=
  floor_same P c (-Q) 0 (by rw [Int.neg_mul]; omega) (Int.le_refl 0) hc
theorem floor_neg1 (P c Q R : Int) (e : Q * c + R = -P) (h0 : 0 < R) (h1 : R < c) : -Q - 1 = P / c :=
  floor_same P c (-Q - 1) (c - R) (by rw [Int.sub_mul, Int.neg_mul]; omega) (by omega) (by omega)
/-- The quotient of the magnitudes is too great: so is the exact one. -/
theorem res_big (P c Q R : Int) (e : Q * c + R = P ∨ Q * c + R = -P) (h0 : 0 ≤ R) (h1 : R < c) (hQ : 1125899906842624 < Q) : resS (P / c) = (0, false) := by
  have h : inB (P / c) = false := by
    rw [inB_no]
    rcases e with e | e
    · rw [← floor_same P c Q R e h0 h1]; omega
    · by_cases hR : R = 0
      · subst hR
        rw [← floor_neg0 P c Q (by omega) (by omega)]; omega
      · rw [← floor_neg1 P c Q R e (by omega) h1]; omega
  unfold resS
  rw [if_neg (by rw [h]; simp)]

/-- The magnitude, by a name of its own. -/
theorem magnitude_as (n A : Int) (w : World) (h1 : -1125899906842624 ≤ n) (h2 : n ≤ 1125899906842624) (hA : Hid ((n.natAbs : Int) = A)) :
    Calls Try.prog 26 #[.int .i64 n] w fun e w' => e = .returned (.int .u64 A) ∧ w = w' :=
  (magnitude_any n w h1 h2).mono fun e w' ⟨he, hw⟩ => ⟨by rw [he, hA.out], hw.symm⟩

/-- The product in two words, by names of their own. -/
theorem mul64_as (A B hi lo : Int) (w : World) (hA : 0 ≤ A ∧ A < 18446744073709551616) (hB : 0 ≤ B ∧ B < 18446744073709551616) (e : Hid (hi * 18446744073709551616 + lo = A * B)) (hl : Hid (0 ≤ lo ∧ lo < 18446744073709551616)) :
    Calls Try.prog 25 #[.int .u64 A, .int .u64 B] w fun e w' => e = .returned (.tuple #[.int .u64 hi, .int .u64 lo]) ∧ w = w' := by
  obtain ⟨x, rfl⟩ := Int.eq_ofNat_of_zero_le hA.1
  obtain ⟨y, rfl⟩ := Int.eq_ofNat_of_zero_le hB.1
  have e1 := e.out
  have hl1 := hl.out
  rw [← Int.natCast_mul] at e1
  refine (Try.bits_Mul64 x y (by omega) (by omega) w).mono fun e' w' ⟨he, hw⟩ => ⟨?_, hw.symm⟩
  rw [he]
  generalize x * y = z at *
  obtain rfl : ((z / 18446744073709551616 : Nat) : Int) = hi := by omega
  obtain rfl : ((z % 18446744073709551616 : Nat) : Int) = lo := by omega
  rfl

/-- The quotient of two words, by names of their own. -/
theorem div64_as (hi lo y Q R : Int) (w : World) (h0 : 0 ≤ hi) (hlo : 0 ≤ lo ∧ lo < 18446744073709551616) (hy : y < 18446744073709551616) (h : hi < y) (e : Hid (Q * y + R = hi * 18446744073709551616 + lo)) (hR : Hid (0 ≤ R ∧ R < y)) :
    Calls Try.prog 27 #[.int .u64 hi, .int .u64 lo, .int .u64 y] w fun e w' => e = .returned (.tuple #[.int .u64 Q, .int .u64 R]) ∧ GrownT w w' := by
  obtain ⟨a, rfl⟩ := Int.eq_ofNat_of_zero_le h0
  obtain ⟨b, rfl⟩ := Int.eq_ofNat_of_zero_le hlo.1
  obtain ⟨c, rfl⟩ := Int.eq_ofNat_of_zero_le (show 0 ≤ y by omega)
  refine (div64_any a b c w (by omega) (by omega) (by omega)).mono fun e' w' ⟨he, hw⟩ => ⟨?_, hw⟩
  have e1 := e.out
  have hR1 := hR.out
  have f : ((a : Int) * 18446744073709551616 + (b : Int)) / (c : Int) = Q ∧ ((a : Int) * 18446744073709551616 + (b : Int)) % (c : Int) = R :=
    (Int.ediv_emod_unique (show (0 : Int) < (c : Int) by omega)).2 ⟨by rw [Int.mul_comm (c : Int) Q]; omega, hR1.1, hR1.2⟩
  rw [he, ← f.1, ← f.2]
  simp

theorem three_yes {a b c : Int} (ha : inB a = true) (hb : inB b = true) (hc : inB c = true) : (inB a && (inB b && inB c)) = true := by rw [ha, hb, hc]; rfl
theorem three_ge {a b c : Int} (h : ¬ (inB a = true ∧ inB b = true ∧ inB c = true ∧ 1 ≤ c)) : (inB a && (inB b && inB c)) = false ∨ ((inB a && (inB b && inB c)) = true ∧ c < 1) := by
  cases ha : inB a <;> cases hb : inB b <;> cases hc : inB c <;> simp_all

theorem mulDiv_no (a b c : Int) (w : World) (h : ¬ (inB a = true ∧ inB b = true ∧ inB c = true ∧ 1 ≤ c)) : Calls Try.prog 19 #[.int .i64 a, .int .i64 b, .int .i64 c] w (Pair (0, false) w) := by
  rcases three_ge h with h1 | ⟨h1, h2⟩
  · have H := Lib.hid h1
    clear h h1
    go_enter Try.func19, Try.ntmps19
    go_wp2_with (go_at_call 24; refine (inRange3 a b c w false H.out).mono ?_; rintro e w' ⟨rfl, rfl⟩)
    go_ret2
    exact ⟨rfl, ⟨by go_grown, by simp⟩⟩
  · have H := Lib.hid h1
    clear h h1
    go_enter Try.func19, Try.ntmps19
    go_wp2_with (go_at_call 24; refine (inRange3 a b c w true H.out).mono ?_; rintro e w' ⟨rfl, rfl⟩)
    go_ret2
    exact ⟨rfl, ⟨by go_grown, by simp⟩⟩

/-- The high word is not below the divisor. -/
theorem mulDiv_high (a b c A B hi lo : Int) (w : World) (H : Hid ((inB a && (inB b && inB c)) = true)) (ha : -1125899906842624 ≤ a ∧ a ≤ 1125899906842624) (hb : -1125899906842624 ≤ b ∧ b ≤ 1125899906842624) (hc : 1 ≤ c ∧ c ≤ 1125899906842624)
    (hA : Hid ((a.natAbs : Int) = A)) (hB : Hid ((b.natAbs : Int) = B)) (hA' : 0 ≤ A ∧ A ≤ 1125899906842624) (hB' : 0 ≤ B ∧ B ≤ 1125899906842624) (_hh : 0 ≤ hi ∧ hi ≤ 68719476736) (_hl : 0 ≤ lo ∧ lo ≤ 18446744073709551615)
    (e1 : Hid (hi * 18446744073709551616 + lo = A * B)) (hl' : Hid (0 ≤ lo ∧ lo < 18446744073709551616)) (h1 : c ≤ hi) :
    Calls Try.prog 19 #[.int .i64 a, .int .i64 b, .int .i64 c] w (Pair (0, false) w) := by
  go_enter Try.func19, Try.ntmps19
  go_wp2_with (first | (go_at_call 24; ((with_reducible refine (inRange3 a b c w true H.out).mono ?_); rintro e w' ⟨rfl, rfl⟩)) | (go_at_call 26; ((with_reducible refine (magnitude_as a A _ (by omega) (by omega) hA).mono ?_); rintro e w' ⟨rfl, rfl⟩)) | (go_at_call 26; ((with_reducible refine (magnitude_as b B _ (by omega) (by omega) hB).mono ?_); rintro e w' ⟨rfl, rfl⟩)) | (go_at_call 25; ((with_reducible refine (mul64_as A B hi lo _ ⟨by omega, by omega⟩ ⟨by omega, by omega⟩ e1 hl').mono ?_); rintro e w' ⟨rfl, rfl⟩)))
  go_ret2
  exact ⟨rfl, ⟨by go_grown, by simp⟩⟩

set_option maxHeartbeats 400000 in
/-- The quotient of the magnitudes is too great. -/
theorem mulDiv_great (a b c A B hi lo Q R : Int) (w : World) (H : Hid ((inB a && (inB b && inB c)) = true)) (ha : -1125899906842624 ≤ a ∧ a ≤ 1125899906842624) (hb : -1125899906842624 ≤ b ∧ b ≤ 1125899906842624) (hc : 1 ≤ c ∧ c ≤ 1125899906842624)
    (hA : Hid ((a.natAbs : Int) = A)) (hB : Hid ((b.natAbs : Int) = B)) (hA' : 0 ≤ A ∧ A ≤ 1125899906842624) (hB' : 0 ≤ B ∧ B ≤ 1125899906842624) (_hh : 0 ≤ hi ∧ hi ≤ 68719476736) (_hl : 0 ≤ lo ∧ lo ≤ 18446744073709551615)
    (e1 : Hid (hi * 18446744073709551616 + lo = A * B)) (hl' : Hid (0 ≤ lo ∧ lo < 18446744073709551616)) (e2 : Hid (Q * c + R = hi * 18446744073709551616 + lo)) (hR' : Hid (0 ≤ R ∧ R < c)) (_hR : 0 ≤ R ∧ R ≤ 1125899906842624) (_hQ : 0 ≤ Q ∧ Q ≤ 18446744073709551615)
    (h1 : hi < c) (h2 : 1125899906842624 < Q) :
    Calls Try.prog 19 #[.int .i64 a, .int .i64 b, .int .i64 c] w (Pair (0, false) w) := by
  go_enter Try.func19, Try.ntmps19
  go_wp2_with (first | (go_at_call 24; ((with_reducible refine (inRange3 a b c w true H.out).mono ?_); rintro e w' ⟨rfl, rfl⟩)) | (go_at_call 26; ((with_reducible refine (magnitude_as a A _ (by omega) (by omega) hA).mono ?_); rintro e w' ⟨rfl, rfl⟩)) | (go_at_call 26; ((with_reducible refine (magnitude_as b B _ (by omega) (by omega) hB).mono ?_); rintro e w' ⟨rfl, rfl⟩)) | (go_at_call 25; ((with_reducible refine (mul64_as A B hi lo _ ⟨by omega, by omega⟩ ⟨by omega, by omega⟩ e1 hl').mono ?_); rintro e w' ⟨rfl, rfl⟩)) | (go_at_call 27; ((with_reducible refine (div64_as hi lo c Q R _ (by omega) ⟨by omega, by omega⟩ (by omega) (by omega) e2 hR').mono ?_); rintro e w1 ⟨rfl, hg1⟩)))
  go_ret2
  exact ⟨rfl, grownTTrans ⟨by go_grown, by simp⟩ hg1⟩

set_option maxHeartbeats 400000 in
theorem mulDiv_pp (a b c A B hi lo Q R : Int) (w : World) (H : Hid ((inB a && (inB b && inB c)) = true)) (ha : -1125899906842624 ≤ a ∧ a ≤ 1125899906842624) (hb : -1125899906842624 ≤ b ∧ b ≤ 1125899906842624) (hc : 1 ≤ c ∧ c ≤ 1125899906842624)
    (hA : Hid ((a.natAbs : Int) = A)) (hB : Hid ((b.natAbs : Int) = B)) (hA' : 0 ≤ A ∧ A ≤ 1125899906842624) (hB' : 0 ≤ B ∧ B ≤ 1125899906842624) (_hh : 0 ≤ hi ∧ hi ≤ 68719476736) (_hl : 0 ≤ lo ∧ lo ≤ 18446744073709551615)
    (e1 : Hid (hi * 18446744073709551616 + lo = A * B)) (hl' : Hid (0 ≤ lo ∧ lo < 18446744073709551616)) (e2 : Hid (Q * c + R = hi * 18446744073709551616 + lo)) (hR' : Hid (0 ≤ R ∧ R < c)) (_hR : 0 ≤ R ∧ R ≤ 1125899906842624) (_hQ : 0 ≤ Q ∧ Q ≤ 18446744073709551615)
    (h1 : hi < c) (h2 : Q ≤ 1125899906842624) (sa : ¬ a < 0) (_da : decide (a < 0) = false) (sb : ¬ b < 0) (_db : decide (b < 0) = false) :
    Calls Try.prog 19 #[.int .i64 a, .int .i64 b, .int .i64 c] w (Pair (resS (Q)) w) := by
  go_enter Try.func19, Try.ntmps19
  go_wp2_with (first | (go_at_call 24; ((with_reducible refine (inRange3 a b c w true H.out).mono ?_); rintro e w' ⟨rfl, rfl⟩)) | (go_at_call 26; ((with_reducible refine (magnitude_as a A _ (by omega) (by omega) hA).mono ?_); rintro e w' ⟨rfl, rfl⟩)) | (go_at_call 26; ((with_reducible refine (magnitude_as b B _ (by omega) (by omega) hB).mono ?_); rintro e w' ⟨rfl, rfl⟩)) | (go_at_call 25; ((with_reducible refine (mul64_as A B hi lo _ ⟨by omega, by omega⟩ ⟨by omega, by omega⟩ e1 hl').mono ?_); rintro e w' ⟨rfl, rfl⟩)) | (go_at_call 27; ((with_reducible refine (div64_as hi lo c Q R _ (by omega) ⟨by omega, by omega⟩ (by omega) (by omega) e2 hR').mono ?_); rintro e w1 ⟨rfl, hg1⟩)) | (go_at_call 28; ((with_reducible refine (bounded_any (Q) _).mono ?_); rintro e w2 ⟨rfl, hg2⟩)))
  go_ret2
  exact ⟨rfl, grownTTrans (grownTTrans ⟨by go_grown, by simp⟩ hg1) hg2⟩

set_option maxHeartbeats 400000 in
theorem mulDiv_nn (a b c A B hi lo Q R : Int) (w : World) (H : Hid ((inB a && (inB b && inB c)) = true)) (ha : -1125899906842624 ≤ a ∧ a ≤ 1125899906842624) (hb : -1125899906842624 ≤ b ∧ b ≤ 1125899906842624) (hc : 1 ≤ c ∧ c ≤ 1125899906842624)
    (hA : Hid ((a.natAbs : Int) = A)) (hB : Hid ((b.natAbs : Int) = B)) (hA' : 0 ≤ A ∧ A ≤ 1125899906842624) (hB' : 0 ≤ B ∧ B ≤ 1125899906842624) (_hh : 0 ≤ hi ∧ hi ≤ 68719476736) (_hl : 0 ≤ lo ∧ lo ≤ 18446744073709551615)
    (e1 : Hid (hi * 18446744073709551616 + lo = A * B)) (hl' : Hid (0 ≤ lo ∧ lo < 18446744073709551616)) (e2 : Hid (Q * c + R = hi * 18446744073709551616 + lo)) (hR' : Hid (0 ≤ R ∧ R < c)) (_hR : 0 ≤ R ∧ R ≤ 1125899906842624) (_hQ : 0 ≤ Q ∧ Q ≤ 18446744073709551615)
    (h1 : hi < c) (h2 : Q ≤ 1125899906842624) (sa : a < 0) (_da : decide (a < 0) = true) (sb : b < 0) (_db : decide (b < 0) = true) :
    Calls Try.prog 19 #[.int .i64 a, .int .i64 b, .int .i64 c] w (Pair (resS (Q)) w) := by
  go_enter Try.func19, Try.ntmps19
  go_wp2_with (first | (go_at_call 24; ((with_reducible refine (inRange3 a b c w true H.out).mono ?_); rintro e w' ⟨rfl, rfl⟩)) | (go_at_call 26; ((with_reducible refine (magnitude_as a A _ (by omega) (by omega) hA).mono ?_); rintro e w' ⟨rfl, rfl⟩)) | (go_at_call 26; ((with_reducible refine (magnitude_as b B _ (by omega) (by omega) hB).mono ?_); rintro e w' ⟨rfl, rfl⟩)) | (go_at_call 25; ((with_reducible refine (mul64_as A B hi lo _ ⟨by omega, by omega⟩ ⟨by omega, by omega⟩ e1 hl').mono ?_); rintro e w' ⟨rfl, rfl⟩)) | (go_at_call 27; ((with_reducible refine (div64_as hi lo c Q R _ (by omega) ⟨by omega, by omega⟩ (by omega) (by omega) e2 hR').mono ?_); rintro e w1 ⟨rfl, hg1⟩)) | (go_at_call 28; ((with_reducible refine (bounded_any (Q) _).mono ?_); rintro e w2 ⟨rfl, hg2⟩)))
  go_ret2
  exact ⟨rfl, grownTTrans (grownTTrans ⟨by go_grown, by simp⟩ hg1) hg2⟩

set_option maxHeartbeats 400000 in
theorem mulDiv_pn1 (a b c A B hi lo Q R : Int) (w : World) (H : Hid ((inB a && (inB b && inB c)) = true)) (ha : -1125899906842624 ≤ a ∧ a ≤ 1125899906842624) (hb : -1125899906842624 ≤ b ∧ b ≤ 1125899906842624) (hc : 1 ≤ c ∧ c ≤ 1125899906842624)
    (hA : Hid ((a.natAbs : Int) = A)) (hB : Hid ((b.natAbs : Int) = B)) (hA' : 0 ≤ A ∧ A ≤ 1125899906842624) (hB' : 0 ≤ B ∧ B ≤ 1125899906842624) (_hh : 0 ≤ hi ∧ hi ≤ 68719476736) (_hl : 0 ≤ lo ∧ lo ≤ 18446744073709551615)
    (e1 : Hid (hi * 18446744073709551616 + lo = A * B)) (hl' : Hid (0 ≤ lo ∧ lo < 18446744073709551616)) (e2 : Hid (Q * c + R = hi * 18446744073709551616 + lo)) (hR' : Hid (0 ≤ R ∧ R < c)) (_hR : 0 ≤ R ∧ R ≤ 1125899906842624) (_hQ : 0 ≤ Q ∧ Q ≤ 18446744073709551615)
    (h1 : hi < c) (h2 : Q ≤ 1125899906842624) (sa : ¬ a < 0) (_da : decide (a < 0) = false) (sb : b < 0) (_db : decide (b < 0) = true) (hz : 0 < R) :
    Calls Try.prog 19 #[.int .i64 a, .int .i64 b, .int .i64 c] w (Pair (resS (-Q - 1)) w) := by
  go_enter Try.func19, Try.ntmps19
  go_wp2_with (first | (go_at_call 24; ((with_reducible refine (inRange3 a b c w true H.out).mono ?_); rintro e w' ⟨rfl, rfl⟩)) | (go_at_call 26; ((with_reducible refine (magnitude_as a A _ (by omega) (by omega) hA).mono ?_); rintro e w' ⟨rfl, rfl⟩)) | (go_at_call 26; ((with_reducible refine (magnitude_as b B _ (by omega) (by omega) hB).mono ?_); rintro e w' ⟨rfl, rfl⟩)) | (go_at_call 25; ((with_reducible refine (mul64_as A B hi lo _ ⟨by omega, by omega⟩ ⟨by omega, by omega⟩ e1 hl').mono ?_); rintro e w' ⟨rfl, rfl⟩)) | (go_at_call 27; ((with_reducible refine (div64_as hi lo c Q R _ (by omega) ⟨by omega, by omega⟩ (by omega) (by omega) e2 hR').mono ?_); rintro e w1 ⟨rfl, hg1⟩)) | (go_at_call 28; ((with_reducible refine (bounded_any (-Q - 1) _).mono ?_); rintro e w2 ⟨rfl, hg2⟩)))
  go_ret2
  exact ⟨rfl, grownTTrans (grownTTrans ⟨by go_grown, by simp⟩ hg1) hg2⟩

set_option maxHeartbeats 400000 in
theorem mulDiv_np1 (a b c A B hi lo Q R : Int) (w : World) (H : Hid ((inB a && (inB b && inB c)) = true)) (ha : -1125899906842624 ≤ a ∧ a ≤ 1125899906842624) (hb : -1125899906842624 ≤ b ∧ b ≤ 1125899906842624) (hc : 1 ≤ c ∧ c ≤ 1125899906842624)
    (hA : Hid ((a.natAbs : Int) = A)) (hB : Hid ((b.natAbs : Int) = B)) (hA' : 0 ≤ A ∧ A ≤ 1125899906842624) (hB' : 0 ≤ B ∧ B ≤ 1125899906842624) (_hh : 0 ≤ hi ∧ hi ≤ 68719476736) (_hl : 0 ≤ lo ∧ lo ≤ 18446744073709551615)
    (e1 : Hid (hi * 18446744073709551616 + lo = A * B)) (hl' : Hid (0 ≤ lo ∧ lo < 18446744073709551616)) (e2 : Hid (Q * c + R = hi * 18446744073709551616 + lo)) (hR' : Hid (0 ≤ R ∧ R < c)) (_hR : 0 ≤ R ∧ R ≤ 1125899906842624) (_hQ : 0 ≤ Q ∧ Q ≤ 18446744073709551615)
    (h1 : hi < c) (h2 : Q ≤ 1125899906842624) (sa : a < 0) (_da : decide (a < 0) = true) (sb : ¬ b < 0) (_db : decide (b < 0) = false) (hz : 0 < R) :
    Calls Try.prog 19 #[.int .i64 a, .int .i64 b, .int .i64 c] w (Pair (resS (-Q - 1)) w) := by
  go_enter Try.func19, Try.ntmps19
  go_wp2_with (first | (go_at_call 24; ((with_reducible refine (inRange3 a b c w true H.out).mono ?_); rintro e w' ⟨rfl, rfl⟩)) | (go_at_call 26; ((with_reducible refine (magnitude_as a A _ (by omega) (by omega) hA).mono ?_); rintro e w' ⟨rfl, rfl⟩)) | (go_at_call 26; ((with_reducible refine (magnitude_as b B _ (by omega) (by omega) hB).mono ?_); rintro e w' ⟨rfl, rfl⟩)) | (go_at_call 25; ((with_reducible refine (mul64_as A B hi lo _ ⟨by omega, by omega⟩ ⟨by omega, by omega⟩ e1 hl').mono ?_); rintro e w' ⟨rfl, rfl⟩)) | (go_at_call 27; ((with_reducible refine (div64_as hi lo c Q R _ (by omega) ⟨by omega, by omega⟩ (by omega) (by omega) e2 hR').mono ?_); rintro e w1 ⟨rfl, hg1⟩)) | (go_at_call 28; ((with_reducible refine (bounded_any (-Q - 1) _).mono ?_); rintro e w2 ⟨rfl, hg2⟩)))
  go_ret2
  exact ⟨rfl, grownTTrans (grownTTrans ⟨by go_grown, by simp⟩ hg1) hg2⟩

set_option maxHeartbeats 400000 in
theorem mulDiv_pn0 (a b c A B hi lo Q R : Int) (w : World) (H : Hid ((inB a && (inB b && inB c)) = true)) (ha : -1125899906842624 ≤ a ∧ a ≤ 1125899906842624) (hb : -1125899906842624 ≤ b ∧ b ≤ 1125899906842624) (hc : 1 ≤ c ∧ c ≤ 1125899906842624)
    (hA : Hid ((a.natAbs : Int) = A)) (hB : Hid ((b.natAbs : Int) = B)) (hA' : 0 ≤ A ∧ A ≤ 1125899906842624) (hB' : 0 ≤ B ∧ B ≤ 1125899906842624) (_hh : 0 ≤ hi ∧ hi ≤ 68719476736) (_hl : 0 ≤ lo ∧ lo ≤ 18446744073709551615)
    (e1 : Hid (hi * 18446744073709551616 + lo = A * B)) (hl' : Hid (0 ≤ lo ∧ lo < 18446744073709551616)) (e2 : Hid (Q * c + R = hi * 18446744073709551616 + lo)) (hR' : Hid (0 ≤ R ∧ R < c)) (_hR : 0 ≤ R ∧ R ≤ 1125899906842624) (_hQ : 0 ≤ Q ∧ Q ≤ 18446744073709551615)
    (h1 : hi < c) (h2 : Q ≤ 1125899906842624) (sa : ¬ a < 0) (_da : decide (a < 0) = false) (sb : b < 0) (_db : decide (b < 0) = true) (hz : ¬ 0 < R) :
    Calls Try.prog 19 #[.int .i64 a, .int .i64 b, .int .i64 c] w (Pair (resS (-Q)) w) := by
  go_enter Try.func19, Try.ntmps19
  go_wp2_with (first | (go_at_call 24; ((with_reducible refine (inRange3 a b c w true H.out).mono ?_); rintro e w' ⟨rfl, rfl⟩)) | (go_at_call 26; ((with_reducible refine (magnitude_as a A _ (by omega) (by omega) hA).mono ?_); rintro e w' ⟨rfl, rfl⟩)) | (go_at_call 26; ((with_reducible refine (magnitude_as b B _ (by omega) (by omega) hB).mono ?_); rintro e w' ⟨rfl, rfl⟩)) | (go_at_call 25; ((with_reducible refine (mul64_as A B hi lo _ ⟨by omega, by omega⟩ ⟨by omega, by omega⟩ e1 hl').mono ?_); rintro e w' ⟨rfl, rfl⟩)) | (go_at_call 27; ((with_reducible refine (div64_as hi lo c Q R _ (by omega) ⟨by omega, by omega⟩ (by omega) (by omega) e2 hR').mono ?_); rintro e w1 ⟨rfl, hg1⟩)) | (go_at_call 28; ((with_reducible refine (bounded_any (-Q) _).mono ?_); rintro e w2 ⟨rfl, hg2⟩)))
  go_ret2
  exact ⟨rfl, grownTTrans (grownTTrans ⟨by go_grown, by simp⟩ hg1) hg2⟩

set_option maxHeartbeats 400000 in
theorem mulDiv_np0 (a b c A B hi lo Q R : Int) (w : World) (H : Hid ((inB a && (inB b && inB c)) = true)) (ha : -1125899906842624 ≤ a ∧ a ≤ 1125899906842624) (hb : -1125899906842624 ≤ b ∧ b ≤ 1125899906842624) (hc : 1 ≤ c ∧ c ≤ 1125899906842624)
    (hA : Hid ((a.natAbs : Int) = A)) (hB : Hid ((b.natAbs : Int) = B)) (hA' : 0 ≤ A ∧ A ≤ 1125899906842624) (hB' : 0 ≤ B ∧ B ≤ 1125899906842624) (_hh : 0 ≤ hi ∧ hi ≤ 68719476736) (_hl : 0 ≤ lo ∧ lo ≤ 18446744073709551615)
    (e1 : Hid (hi * 18446744073709551616 + lo = A * B)) (hl' : Hid (0 ≤ lo ∧ lo < 18446744073709551616)) (e2 : Hid (Q * c + R = hi * 18446744073709551616 + lo)) (hR' : Hid (0 ≤ R ∧ R < c)) (_hR : 0 ≤ R ∧ R ≤ 1125899906842624) (_hQ : 0 ≤ Q ∧ Q ≤ 18446744073709551615)
    (h1 : hi < c) (h2 : Q ≤ 1125899906842624) (sa : a < 0) (_da : decide (a < 0) = true) (sb : ¬ b < 0) (_db : decide (b < 0) = false) (hz : ¬ 0 < R) :
    Calls Try.prog 19 #[.int .i64 a, .int .i64 b, .int .i64 c] w (Pair (resS (-Q)) w) := by
  go_enter Try.func19, Try.ntmps19
  go_wp2_with (first | (go_at_call 24; ((with_reducible refine (inRange3 a b c w true H.out).mono ?_); rintro e w' ⟨rfl, rfl⟩)) | (go_at_call 26; ((with_reducible refine (magnitude_as a A _ (by omega) (by omega) hA).mono ?_); rintro e w' ⟨rfl, rfl⟩)) | (go_at_call 26; ((with_reducible refine (magnitude_as b B _ (by omega) (by omega) hB).mono ?_); rintro e w' ⟨rfl, rfl⟩)) | (go_at_call 25; ((with_reducible refine (mul64_as A B hi lo _ ⟨by omega, by omega⟩ ⟨by omega, by omega⟩ e1 hl').mono ?_); rintro e w' ⟨rfl, rfl⟩)) | (go_at_call 27; ((with_reducible refine (div64_as hi lo c Q R _ (by omega) ⟨by omega, by omega⟩ (by omega) (by omega) e2 hR').mono ?_); rintro e w1 ⟨rfl, hg1⟩)) | (go_at_call 28; ((with_reducible refine (bounded_any (-Q) _).mono ?_); rintro e w2 ⟨rfl, hg2⟩)))
  go_ret2
  exact ⟨rfl, grownTTrans (grownTTrans ⟨by go_grown, by simp⟩ hg1) hg2⟩

end Go.Proofs.Ytaknbjjcgcmdlaa
