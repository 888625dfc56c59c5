/- What the reference's MulDiv and Mul return. -/
import Derived.Test.YtbdjdmgohjjnaaaDoorRefGcd
namespace Go.Proofs.YtbdjdmgohjjnaaaDoor
open Go Go.RowKit

theorem half_step (A s : Int) (k : Nat) (hk : A / 2 ^ k = s) : A / 2 ^ (k + 1) = s / 2 := by
  rw [← hk, Int.pow_succ, Int.ediv_ediv_of_nonneg (Int.le_of_lt (Int.pow_pos (by omega)))]

/-- One bit more. -/
theorem bit_one (A B c x y s : Int) (k : Nat) (hk : A / 2 ^ k = s) (e : x * c + y = A / 2 ^ (k + 1) * B) (ht : s % 2 = 1) : (2 * x + B / c) * c + (2 * y + B % c) = s * B := by
  rw [half_step A s k hk] at e
  have hs : s = 2 * (s / 2) + 1 := by omega
  have eb := Int.mul_ediv_add_emod B c
  rw [Int.mul_comm] at eb
  rw [hs, Int.add_mul, Int.add_mul, Int.mul_assoc, Int.mul_assoc, ← e, Int.one_mul]
  omega
theorem bit_zero (A B c x y s : Int) (k : Nat) (hk : A / 2 ^ k = s) (e : x * c + y = A / 2 ^ (k + 1) * B) (ht : ¬ s % 2 = 1) : 2 * x * c + 2 * y = s * B := by
  rw [half_step A s k hk] at e
  have hs : s = 2 * (s / 2) := by omega
  rw [hs, Int.mul_assoc, Int.mul_assoc, ← e]
  omega
theorem carry_step (p q c d z x : Int) (hc : 1 ≤ c) (hq : 0 ≤ q) (hq2 : q ≤ 9007199254740992) (hd : q.tdiv c = d) (hz : q.tmod c = z) (hx : p + d = x) : 0 ≤ d ∧ d ≤ 9007199254740992 ∧ 0 ≤ z ∧ z < c ∧ x * c + z = p * c + q := by
  rw [Int.tdiv_eq_ediv_of_nonneg hq] at hd
  rw [Int.tmod_eq_emod_of_nonneg hq] at hz
  have e := Int.mul_ediv_add_emod q c
  rw [Int.mul_comm] at e
  have m0 := Int.emod_nonneg q (show c ≠ 0 by omega)
  have m1 := Int.emod_lt_of_pos q (show 0 < c by omega)
  have d0 := Int.ediv_nonneg hq (show 0 ≤ c by omega)
  have d1 := Int.ediv_le_self c hq
  rw [hd] at e d0 d1
  rw [hz] at e m0 m1
  refine ⟨d0, by omega, m0, m1, ?_⟩
  rw [← hx, Int.add_mul]
  omega

theorem mag_cases {a b A B : Int} (hA : (a.natAbs : Int) = A) (hB : (b.natAbs : Int) = B) : A * B = a * b ∨ A * B = -(a * b) := by
  rw [← hA, ← hB]; exact mag_product a b
theorem mag_same {a b A B : Int} (hA : (a.natAbs : Int) = A) (hB : (b.natAbs : Int) = B) (h : (a < 0 ∧ b < 0) ∨ (0 ≤ a ∧ 0 ≤ b)) : A * B = a * b := by
  rcases h with ⟨x, y⟩ | ⟨x, y⟩
  · rw [← hA, ← hB, Int.ofNat_natAbs_of_nonpos (by omega), Int.ofNat_natAbs_of_nonpos (by omega), Int.neg_mul_neg]
  · rw [← hA, ← hB, Int.natAbs_of_nonneg x, Int.natAbs_of_nonneg y]
theorem mag_diff {a b A B : Int} (hA : (a.natAbs : Int) = A) (hB : (b.natAbs : Int) = B) (h : (a < 0 ∧ 0 ≤ b) ∨ (0 ≤ a ∧ b < 0)) : A * B = -(a * b) := by
  rcases h with ⟨x, y⟩ | ⟨x, y⟩
  · rw [← hA, ← hB, Int.ofNat_natAbs_of_nonpos (by omega), Int.natAbs_of_nonneg y, Int.neg_mul]
  · rw [← hA, ← hB, Int.natAbs_of_nonneg x, Int.ofNat_natAbs_of_nonpos (by omega), Int.mul_neg]

theorem end_same (a b c A B x y : Int) (hA : (a.natAbs : Int) = A) (hB : (b.natAbs : Int) = B) (e : x * c + y = A * B) (h0 : 0 ≤ y) (h1 : y < c) (h : (a < 0 ∧ b < 0) ∨ (0 ≤ a ∧ 0 ≤ b)) : x = a * b / c :=
  floor_same _ c x y (by rw [e, mag_same hA hB h]) h0 h1
theorem end_zero (a b c A B x y : Int) (hA : (a.natAbs : Int) = A) (hB : (b.natAbs : Int) = B) (e : x * c + y = A * B) (h0 : 0 ≤ y) (h1 : y < c) (h : a = 0 ∨ b = 0) : x = a * b / c := by
  refine floor_same _ c x y ?_ h0 h1
  have z : a * b = 0 := by rcases h with h | h <;> simp [h]
  have := mag_cases hA hB
  omega
theorem end_diff1 (a b c A B x y : Int) (hA : (a.natAbs : Int) = A) (hB : (b.natAbs : Int) = B) (e : x * c + y = A * B) (h0 : 0 < y) (h1 : y < c) (h : (a < 0 ∧ 0 ≤ b) ∨ (0 ≤ a ∧ b < 0)) : -(x + 1) = a * b / c := by
  have := floor_neg1 (a * b) c x y (by rw [e, mag_diff hA hB h]) h0 h1
  omega
theorem end_diff0 (a b c A B x y : Int) (hA : (a.natAbs : Int) = A) (hB : (b.natAbs : Int) = B) (e : x * c + y = A * B) (h0 : y = 0) (h1 : y < c) (h : (a < 0 ∧ 0 ≤ b) ∨ (0 ≤ a ∧ b < 0)) : -x = a * b / c :=
  floor_neg0 (a * b) c x (by rw [← mag_diff hA hB h, ← e]; omega) (by omega)

/-- The quotient of the leading bits is too great: so is the whole. -/
theorem bits_big (a b c A B s x y : Int) (k : Nat) (hA : (a.natAbs : Int) = A) (hB : (b.natAbs : Int) = B) (hA0 : 0 ≤ A) (hB0 : 0 ≤ B) (hc : 1 ≤ c) (hs : A / 2 ^ (k - 1) = s) (e : x * c + y = s * B) (h0 : 0 ≤ y) (hx : 2251799813685248 < x) :
    resS (a * b / c) = (0, false) := by
  have hp : (1 : Int) ≤ 2 ^ (k - 1) := Int.pow_pos (by omega)
  have sA : s ≤ A := by rw [← hs]; exact Int.ediv_le_self _ hA0
  have m := Int.mul_le_mul_of_nonneg_right sA hB0
  have d := Int.mul_ediv_add_emod (A * B) c
  rw [Int.mul_comm] at d
  have m0 := Int.emod_nonneg (A * B) (show c ≠ 0 by omega)
  have m1 := Int.emod_lt_of_pos (A * B) (show 0 < c by omega)
  refine res_big (a * b) c (A * B / c) (A * B % c) ?_ m0 m1 ?_
  · rw [d]; exact mag_cases hA hB
  · rcases Int.lt_or_le 1125899906842624 (A * B / c) with h | h
    · exact h
    · exfalso
      have u := Int.mul_le_mul_of_nonneg_right h (show 0 ≤ c by omega)
      have v := Int.mul_le_mul_of_nonneg_right (show 1125899906842626 ≤ x by omega) (show 0 ≤ c by omega)
      omega

theorem refAbsQ (n A : Int) (w : World) (h1 : -1125899906842624 ≤ n) (h2 : n ≤ 1125899906842624) (hA : Hid ((n.natAbs : Int) = A)) :
    Calls Tryd.prog 40 #[.int .i64 n] w fun e w' => e = .returned (.int .i64 A) ∧ w' = w :=
  (refAbs n A w h1 h2 hA).mono fun _ _ ⟨he, hw⟩ => ⟨he, hw.symm⟩

/-- At the loop's head: k bits of A are still to come; quotient and rest of the others. -/
def MulAt (A B c : Int) (W : World) (q r i : Value) (wr : World) : Prop :=
  ∃ (k : Nat) (x y j : Int), k ≤ 51 ∧ q = .int .i64 x ∧ r = .int .i64 y ∧ i = .int .i64 j ∧ Hid (j = (k : Int) - 1) ∧ -1 ≤ j ∧ j ≤ 50 ∧ 0 ≤ x ∧ x ≤ 2251799813685248 ∧ 0 ≤ y ∧ y < c ∧ Hid (x * c + y = A / 2 ^ k * B) ∧ Hid (Grown W wr)

set_option maxRecDepth 100000 in
set_option maxHeartbeats 4000000 in
theorem refMulDiv_yes (a b c A B : Int) (w : World) (H1 : Hid (inB a = true)) (H2 : Hid (inB b = true)) (H3 : Hid (inB c = true)) (ha : -1125899906842624 ≤ a ∧ a ≤ 1125899906842624) (hb : -1125899906842624 ≤ b ∧ b ≤ 1125899906842624) (hc : 1 ≤ c ∧ c ≤ 1125899906842624)
    (hA : Hid ((a.natAbs : Int) = A)) (hB : Hid ((b.natAbs : Int) = B)) (hA' : 0 ≤ A ∧ A ≤ 1125899906842624) (hB' : 0 ≤ B ∧ B ≤ 1125899906842624) :
    Calls Tryd.prog 26 #[.int .i64 a, .int .i64 b, .int .i64 c] w (Pair (resS (a * b / c)) w) := by
  go_enter Tryd.func26, Tryd.ntmps26
  go_wp2_with (first | (go_at_call 35; ((with_reducible refine (refIn_any a true _ H1.out).mono ?_); rintro e w' ⟨rfl, rfl⟩)) | (go_at_call 35; ((with_reducible refine (refIn_any b true _ H2.out).mono ?_); rintro e w' ⟨rfl, rfl⟩)) | (go_at_call 35; ((with_reducible refine (refIn_any c true _ H3.out).mono ?_); rintro e w' ⟨rfl, rfl⟩)))
  go_loopw [8, 9, 10] (fun q r i wr => MulAt A B c w q r i wr) (fun _ _ i _ => (intOf i + 1).toNat)
  case atStart => exact ⟨51, 0, 0, 50, by omega, rfl, rfl, rfl, Lib.hid (by omega), by omega, by omega, by omega, by omega, by omega, by omega, Lib.hid (by rw [Int.ediv_eq_zero_of_lt hA'.1 (by omega)]; simp), Lib.hid (Grown.refl _)⟩
  case round =>
    obtain ⟨k, x, y, j, hk, rfl, rfl, rfl, hj, j1, j2, x1, x2, y1, y2, hxy, hgr⟩ := hrel
    by_cases hj0 : 0 ≤ j
    · have hjk : j.toNat = k - 1 := by have := hj.out; omega
      have hk1' : k = (k - 1) + 1 := by have := hj.out; omega
      have hp : (1 : Int) ≤ 2 ^ (k - 1) := Int.pow_pos (by omega)
      obtain ⟨s, hs⟩ : ∃ s, A / 2 ^ j.toNat = s := ⟨_, rfl⟩
      have hk1 : Hid (A / 2 ^ (k - 1) = s) := Lib.hid (by rw [← hs, hjk])
      have hs0 : 0 ≤ s := by rw [← hs]; exact Int.ediv_nonneg hA'.1 (by rw [hjk]; omega)
      have hs1 : s ≤ 1125899906842624 := by have := Int.ediv_le_self (2 ^ j.toNat) hA'.1; omega
      have HXY : Hid (x * c + y = A / 2 ^ (k - 1 + 1) * B) := Lib.hid (by rw [← hk1']; exact hxy.out)
      have hc0 : (c == 0) = false := by simp; omega
      clear hjk hp hxy
      have HK1 := Lib.hid hk1'
      clear hk1'
      obtain ⟨x', hx'⟩ : ∃ z, 2 * x = z := ⟨_, rfl⟩
      obtain ⟨y', hy'⟩ : ∃ z, 2 * y = z := ⟨_, rfl⟩
      have bx' : 0 ≤ x' ∧ x' ≤ 4503599627370496 := by omega
      have by' : 0 ≤ y' ∧ y' ≤ 2251799813685248 := by omega
      by_cases ht : s % 2 = 1
      · have ht' : (s % 2 == 1) = true := by simpa using ht
        have hsum := bit_one A B c x y s (k - 1) hk1.out HXY.out ht
        rw [hx', hy'] at hsum
        clear ht
        obtain ⟨bq, hbq⟩ : ∃ z, B / c = z := ⟨_, rfl⟩
        obtain ⟨br, hbr⟩ : ∃ z, B % c = z := ⟨_, rfl⟩
        have bb : 0 ≤ bq ∧ bq ≤ 1125899906842624 := by
          have := Int.ediv_le_self c hB'.1
          have := Int.ediv_nonneg hB'.1 (show 0 ≤ c by omega)
          omega
        have cc : 0 ≤ br ∧ br ≤ 1125899906842624 := by
          have := Int.emod_nonneg B (show c ≠ 0 by omega)
          have := Int.emod_lt_of_pos B (show 0 < c by omega)
          omega
        rw [hbq, hbr] at hsum
        have K1 : IntKind.i64.wrap (B.tdiv c) = bq := by rw [Int.tdiv_eq_ediv_of_nonneg hB'.1, hbq]; exact IntWalk.i64_in bq (by omega)
        have K2 : B.tmod c = br := by rw [Int.tmod_eq_emod_of_nonneg hB'.1, hbr]
        clear hbq hbr
        obtain ⟨x3, hx3⟩ : ∃ z, x' + bq = z := ⟨_, rfl⟩
        obtain ⟨y3, hy3⟩ : ∃ z, y' + br = z := ⟨_, rfl⟩
        rw [hx3, hy3] at hsum
        have K3 : IntKind.i64.wrap (x' + bq) = x3 := by rw [hx3]; exact IntWalk.i64_in x3 (by omega)
        have K4 : IntKind.i64.wrap (y' + br) = y3 := by rw [hy3]; exact IntWalk.i64_in y3 (by omega)
        have b3 : 0 ≤ x3 ∧ x3 ≤ 5629499534213120 := by omega
        have c3 : 0 ≤ y3 ∧ y3 ≤ 3377699720527872 := by omega
        have HS := Lib.hid hsum
        clear hsum hx3 hy3
        go_wp2_with (first | (go_at_call 40; ((with_reducible refine (refAbs a A _ (by omega) (by omega) hA).mono ?_); rintro e w' ⟨rfl, rfl⟩)))
        go_quiet ((go_at_call 40; exact Calls.quiet_of_same (refAbsQ b B _ (by omega) (by omega) hB)))
        clear K1 K2 K3 K4
        go_wp2_with fail
        obtain ⟨d, hd⟩ : ∃ d, y3.tdiv c = d := ⟨_, rfl⟩
        obtain ⟨y4, hy4⟩ : ∃ z, y3.tmod c = z := ⟨_, rfl⟩
        obtain ⟨x4, hx4⟩ : ∃ z, x3 + d = z := ⟨_, rfl⟩
        obtain ⟨d1, d2, e1, e2, e3⟩ := carry_step x3 y3 c d y4 x4 hc.1 (by omega) (by omega) hd hy4 hx4
        have K5 : IntKind.i64.wrap (y3.tdiv c) = d := by rw [hd]; exact IntWalk.i64_in d (by omega)
        have K7 : IntKind.i64.wrap (x3 + d) = x4 := by rw [hx4]; exact IntWalk.i64_in x4 (by omega)
        have K6 := hy4
        have E := Lib.hid (e3.trans HS.out)
        clear hd hy4 e3
        have b4 : 0 ≤ x4 ∧ x4 ≤ 18014398509481984 := by omega
        clear hx4
        go_quiet (fail)
        clear K5 K6 K7
        by_cases hbig : 2251799813685248 < x4
        · have F := Lib.hid (bits_big a b c A B s x4 y4 k hA.out hB.out hA'.1 hB'.1 hc.1 hk1.out E.out e1 hbig)
          go_wp2
          go_ret2
          exact ⟨by rw [F.out]; rfl, (by repeat (first | exact hgr.out | refine grownDrewN ?_ _))⟩
        · go_wp2
          go_roundw
          case rel => exact ⟨k - 1, x4, y4, j - 1, by omega, rfl, rfl, rfl, Lib.hid (by have := hj.out; omega), by omega, by omega, by omega, by omega, e1, e2, Lib.hid (by rw [E.out, ← hk1.out]), Lib.hid (by repeat (first | exact hgr.out | refine grownDrewN ?_ _))⟩
          case measure => simp [intOf]; omega
      · have ht' : (s % 2 == 1) = false := by simpa using ht
        have hsum := bit_zero A B c x y s (k - 1) hk1.out HXY.out ht
        rw [hx', hy'] at hsum
        have HS := Lib.hid hsum
        clear ht hsum
        go_wp2_with (first | (go_at_call 40; ((with_reducible refine (refAbs a A _ (by omega) (by omega) hA).mono ?_); rintro e w' ⟨rfl, rfl⟩)))
        obtain ⟨d, hd⟩ : ∃ d, y'.tdiv c = d := ⟨_, rfl⟩
        obtain ⟨y4, hy4⟩ : ∃ z, y'.tmod c = z := ⟨_, rfl⟩
        obtain ⟨x4, hx4⟩ : ∃ z, x' + d = z := ⟨_, rfl⟩
        obtain ⟨d1, d2, e1, e2, e3⟩ := carry_step x' y' c d y4 x4 hc.1 (by omega) (by omega) hd hy4 hx4
        have K5 : IntKind.i64.wrap (y'.tdiv c) = d := by rw [hd]; exact IntWalk.i64_in d (by omega)
        have K7 : IntKind.i64.wrap (x' + d) = x4 := by rw [hx4]; exact IntWalk.i64_in x4 (by omega)
        have K6 := hy4
        have E := Lib.hid (e3.trans HS.out)
        clear hd hy4 e3
        have b4 : 0 ≤ x4 ∧ x4 ≤ 18014398509481984 := by omega
        clear hx4
        go_quiet (fail)
        clear K5 K6 K7
        by_cases hbig : 2251799813685248 < x4
        · have F := Lib.hid (bits_big a b c A B s x4 y4 k hA.out hB.out hA'.1 hB'.1 hc.1 hk1.out E.out e1 hbig)
          go_wp2
          go_ret2
          exact ⟨by rw [F.out]; rfl, (by repeat (first | exact hgr.out | refine grownDrewN ?_ _))⟩
        · go_wp2
          go_roundw
          case rel => exact ⟨k - 1, x4, y4, j - 1, by omega, rfl, rfl, rfl, Lib.hid (by have := hj.out; omega), by omega, by omega, by omega, by omega, e1, e2, Lib.hid (by rw [E.out, ← hk1.out]), Lib.hid (by repeat (first | exact hgr.out | refine grownDrewN ?_ _))⟩
          case measure => simp [intOf]; omega
    · have hj1 : j = -1 := by omega
      have hj2 : ¬ 0 ≤ j := hj0
      have hk0 : k = 0 := by have := hj.out; omega
      have hxy0 : x * c + y = A * B := by have h := hxy.out; rw [hk0] at h; simpa using h
      clear hxy
      have HXY := Lib.hid hxy0
      clear hxy0 hk0
      by_cases sa : a < 0
      · have da : decide (a < 0) = true := by simpa using sa
        have na : (a == 0) = false := by simp; omega
        have na' : (a != 0) = true := by simp; omega
        by_cases sb : b < 0
        · have db : decide (b < 0) = true := by simpa using sb
          have E := Lib.hid (end_same a b c A B x y hA.out hB.out HXY.out y1 y2 (Or.inl ⟨sa, sb⟩))
          go_wp2_with (first | (go_at_call 36; ((with_reducible refine (refResult_any (x) _).mono ?_); rintro e w1 ⟨rfl, hg1⟩)))
          go_ret2
          exact ⟨by rw [← E.out]; rfl, grownTrans hgr.out hg1⟩
        · have db : decide (b < 0) = false := by simpa using sb
          by_cases zb : b = 0
          · have nb : (b == 0) = true := by simpa using zb
            have nb' : (b != 0) = false := by simpa using zb
            have E := Lib.hid (end_zero a b c A B x y hA.out hB.out HXY.out y1 y2 (Or.inr zb))
            clear zb
            go_wp2_with (first | (go_at_call 36; ((with_reducible refine (refResult_any (x) _).mono ?_); rintro e w1 ⟨rfl, hg1⟩)))
            go_ret2
            exact ⟨by rw [← E.out]; rfl, grownTrans hgr.out hg1⟩
          · have nb : (b == 0) = false := by simpa using zb
            have nb' : (b != 0) = true := by simpa using zb
            by_cases hy : 0 < y
            · have E := Lib.hid (end_diff1 a b c A B x y hA.out hB.out HXY.out hy y2 (Or.inl ⟨sa, by omega⟩))
              clear zb
              go_wp2_with (first | (go_at_call 36; ((with_reducible refine (refResult_any (-(x + 1)) _).mono ?_); rintro e w1 ⟨rfl, hg1⟩)))
              go_ret2
              exact ⟨by rw [← E.out]; rfl, grownTrans hgr.out hg1⟩
            · have E := Lib.hid (end_diff0 a b c A B x y hA.out hB.out HXY.out (by omega) y2 (Or.inl ⟨sa, by omega⟩))
              clear zb
              go_wp2_with (first | (go_at_call 36; ((with_reducible refine (refResult_any (-x) _).mono ?_); rintro e w1 ⟨rfl, hg1⟩)))
              go_ret2
              exact ⟨by rw [← E.out]; rfl, grownTrans hgr.out hg1⟩
      · have da : decide (a < 0) = false := by simpa using sa
        by_cases sb : b < 0
        · have db : decide (b < 0) = true := by simpa using sb
          have nb : (b == 0) = false := by simp; omega
          have nb' : (b != 0) = true := by simp; omega
          by_cases za : a = 0
          · have na : (a == 0) = true := by simpa using za
            have na' : (a != 0) = false := by simpa using za
            have E := Lib.hid (end_zero a b c A B x y hA.out hB.out HXY.out y1 y2 (Or.inl za))
            clear za
            go_wp2_with (first | (go_at_call 36; ((with_reducible refine (refResult_any (x) _).mono ?_); rintro e w1 ⟨rfl, hg1⟩)))
            go_ret2
            exact ⟨by rw [← E.out]; rfl, grownTrans hgr.out hg1⟩
          · have na : (a == 0) = false := by simpa using za
            have na' : (a != 0) = true := by simpa using za
            by_cases hy : 0 < y
            · have E := Lib.hid (end_diff1 a b c A B x y hA.out hB.out HXY.out hy y2 (Or.inr ⟨by omega, sb⟩))
              clear za
              go_wp2_with (first | (go_at_call 36; ((with_reducible refine (refResult_any (-(x + 1)) _).mono ?_); rintro e w1 ⟨rfl, hg1⟩)))
              go_ret2
              exact ⟨by rw [← E.out]; rfl, grownTrans hgr.out hg1⟩
            · have E := Lib.hid (end_diff0 a b c A B x y hA.out hB.out HXY.out (by omega) y2 (Or.inr ⟨by omega, sb⟩))
              clear za
              go_wp2_with (first | (go_at_call 36; ((with_reducible refine (refResult_any (-x) _).mono ?_); rintro e w1 ⟨rfl, hg1⟩)))
              go_ret2
              exact ⟨by rw [← E.out]; rfl, grownTrans hgr.out hg1⟩
        · have db : decide (b < 0) = false := by simpa using sb
          have E := Lib.hid (end_same a b c A B x y hA.out hB.out HXY.out y1 y2 (Or.inr ⟨by omega, by omega⟩))
          go_wp2_with (first | (go_at_call 36; ((with_reducible refine (refResult_any (x) _).mono ?_); rintro e w1 ⟨rfl, hg1⟩)))
          go_ret2
          exact ⟨by rw [← E.out]; rfl, grownTrans hgr.out hg1⟩

theorem four_cases {a b c : Int} (h : ¬ (inB a = true ∧ inB b = true ∧ inB c = true ∧ 1 ≤ c)) : inB a = false ∨ (inB a = true ∧ inB b = false) ∨ (inB a = true ∧ inB b = true ∧ inB c = false) ∨ (inB a = true ∧ inB b = true ∧ inB c = true ∧ c < 1) := by
  cases ha : inB a <;> cases hb : inB b <;> cases hc : inB c <;> simp_all

theorem refMulDiv_no (a b c : Int) (w : World) (h : ¬ (inB a = true ∧ inB b = true ∧ inB c = true ∧ 1 ≤ c)) : Calls Tryd.prog 26 #[.int .i64 a, .int .i64 b, .int .i64 c] w (Pair (0, false) w) := by
  rcases four_cases h with h1 | ⟨h1, h2⟩ | ⟨h1, h2, h3⟩ | ⟨h1, h2, h3, h4⟩
  · have H1 := Lib.hid h1
    clear h h1
    go_enter Tryd.func26, Tryd.ntmps26
    go_wp2_with (go_at_call 35; ((with_reducible refine (refIn_any a false _ H1.out).mono ?_); rintro e w' ⟨rfl, rfl⟩))
    go_ret2
    exact ⟨rfl, by go_grown⟩
  · have H1 := Lib.hid h1
    have H2 := Lib.hid h2
    clear h h1 h2
    go_enter Tryd.func26, Tryd.ntmps26
    go_wp2_with (first | (go_at_call 35; ((with_reducible refine (refIn_any a true _ H1.out).mono ?_); rintro e w' ⟨rfl, rfl⟩)) | (go_at_call 35; ((with_reducible refine (refIn_any b false _ H2.out).mono ?_); rintro e w' ⟨rfl, rfl⟩)))
    go_ret2
    exact ⟨rfl, by go_grown⟩
  · have H1 := Lib.hid h1
    have H2 := Lib.hid h2
    have H3 := Lib.hid h3
    clear h h1 h2 h3
    go_enter Tryd.func26, Tryd.ntmps26
    go_wp2_with (first | (go_at_call 35; ((with_reducible refine (refIn_any a true _ H1.out).mono ?_); rintro e w' ⟨rfl, rfl⟩)) | (go_at_call 35; ((with_reducible refine (refIn_any b true _ H2.out).mono ?_); rintro e w' ⟨rfl, rfl⟩)) | (go_at_call 35; ((with_reducible refine (refIn_any c false _ H3.out).mono ?_); rintro e w' ⟨rfl, rfl⟩)))
    go_ret2
    exact ⟨rfl, by go_grown⟩
  · have H1 := Lib.hid h1
    have H2 := Lib.hid h2
    have H3 := Lib.hid h3
    clear h h1 h2 h3
    go_enter Tryd.func26, Tryd.ntmps26
    go_wp2_with (first | (go_at_call 35; ((with_reducible refine (refIn_any a true _ H1.out).mono ?_); rintro e w' ⟨rfl, rfl⟩)) | (go_at_call 35; ((with_reducible refine (refIn_any b true _ H2.out).mono ?_); rintro e w' ⟨rfl, rfl⟩)) | (go_at_call 35; ((with_reducible refine (refIn_any c true _ H3.out).mono ?_); rintro e w' ⟨rfl, rfl⟩)))
    go_ret2
    exact ⟨rfl, by go_grown⟩

theorem refMulDiv_any (a b c : Int) (w : World) : Calls Tryd.prog 26 #[.int .i64 a, .int .i64 b, .int .i64 c] w (Pair (mulDivS a b c) w) := by
  unfold mulDivS
  by_cases h : inB a = true ∧ inB b = true ∧ inB c = true ∧ 1 ≤ c
  · rw [if_pos h]
    have a1 := (inB_iff a).1 h.1
    have b1 := (inB_iff b).1 h.2.1
    have c1 := (inB_iff c).1 h.2.2.1
    exact refMulDiv_yes a b c _ _ w (Lib.hid h.1) (Lib.hid h.2.1) (Lib.hid h.2.2.1) a1 b1 ⟨h.2.2.2, c1.2⟩ (Lib.hid rfl) (Lib.hid rfl) (by omega) (by omega)
  · rw [if_neg h]; exact refMulDiv_no a b c w h

theorem refMul_any (a b : Int) (w : World) : Calls Tryd.prog 17 #[.int .i64 a, .int .i64 b] w (Pair (mulS a b) w) := by
  unfold mulS
  generalize hr : mulDivS a b 1 = r
  have HR := Lib.hid hr
  clear hr
  go_enter Tryd.func17, Tryd.ntmps17
  go_wp2_with (go_at_call 26; refine (refMulDiv_any a b 1 _).mono ?_; rw [HR.out]; rintro e w' ⟨rfl, hg⟩)
  go_ret2
  exact ⟨rfl, hg⟩

end Go.Proofs.YtbdjdmgohjjnaaaDoor
