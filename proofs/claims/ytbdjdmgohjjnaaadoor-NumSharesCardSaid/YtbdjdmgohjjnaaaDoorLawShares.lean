/- NumShares' walk. -/
import Derived.Test.YtbdjdmgohjjnaaaDoorLawExact
import Derived.Deep.RegionHeld3
namespace Go.Proofs.YtbdjdmgohjjnaaaDoor
open Go Go.RowKit

def Held (W w : World) : Prop := Grown W w
theorem Held.next {W w w' : World} (h : Held W w) (k : Grown w w') : Held W w' := grownTrans h k
theorem Held.drew {W w : World} (h : Held W w) : Held W w.drew := Grown.drew h
theorem Held.tab {W w : World} (h : Held W w) (t : Tab W) : Tab w := t.grown h

set_option maxRecDepth 100000 in
set_option maxHeartbeats 4000000 in
theorem shares_core (n0 n1 n2 k x0 x1 y0 y1 a b g ag bg : Int) (w : World) (hT : Tab w) (_hn0 : 0 ≤ n0 ∧ n0 ≤ 4294967295) (_hn1 : 0 ≤ n1 ∧ n1 ≤ 4294967295) (hn2 : 0 ≤ n2 ∧ n2 ≤ 4294967295)
    (K0 : Hid (1 + n2 % 32 = k)) (A1 : Hid (n0.tmod 1048576 = x0)) (A2 : Hid (IntKind.i64.wrap x0 = x0)) (A3 : Hid (IntKind.i64.wrap (1 + x0) = y0)) (A4 : Hid (IntKind.i64.wrap (k * y0) = a))
    (B1 : Hid (n1.tmod 1048576 = x1)) (B2 : Hid (IntKind.i64.wrap x1 = x1)) (B3 : Hid (IntKind.i64.wrap (1 + x1) = y1)) (B4 : Hid (IntKind.i64.wrap (k * y1) = b))
    (hk : 1 ≤ k ∧ k ≤ 32) (ha : 1 ≤ a ∧ a ≤ 33554432) (_hb : 1 ≤ b ∧ b ≤ 33554432) (hg : 1 ≤ g ∧ g ≤ 33554432) (_hag : 1 ≤ ag ∧ ag ≤ 33554432) (hl : 0 ≤ ag * b ∧ ag * b ≤ 1125899906842624)
    (G : Hid (gcdS a b = g)) (G2 : Hid (gcdS b (-a) = g)) (G3 : Hid (gcdS ag bg = 1)) (L : Hid (lcmS [a, b] = (ag * b, true)))
    (M1 : Hid (a.tmod g = 0)) (M2 : Hid (b.tmod g = 0)) (M3 : Hid (g.tmod k = 0)) (D1 : Hid (IntKind.i64.wrap (a.tdiv g) = ag)) (D2 : Hid (IntKind.i64.wrap (b.tdiv g) = bg)) (NA : Hid (IntKind.i64.wrap (-a) = -a)) (DV : Hid (a / g = ag)) :
    Calls Tryd.prog 9 #[.agg #[.int .u32 n0, .int .u32 n1, .int .u32 n2]] w fun e w' => e = .returned (.bool true) ∧ Grown w w' := by
  have HT := Lib.hid hT
  clear hT
  go_enter Tryd.func9, Tryd.ntmps9
  go_wp2_with fail
  go_at_call 18
  refine (works_true _ (HT.out.grown (by go_grown))).mono ?_
  rintro e w1 ⟨rfl, hg1⟩
  have f0 : w1.cell? ⟨w.heap.size, 0, none⟩ = some (.int .u32 n0) := grownSome hg1 (by simp [go_sem])
  have f1 : w1.cell? ⟨w.heap.size, 1, none⟩ = some (.int .u32 n1) := grownSome hg1 (by simp [go_sem])
  have f2 : w1.cell? ⟨w.heap.size, 2, none⟩ = some (.int .u32 n2) := grownSome hg1 (by simp [go_sem])
  have G1 := Lib.hid (grownTrans (by go_grown) hg1 : Grown w w1)
  clear hg1
  have k0 := K0.out
  go_wp2_with fail
  clear k0
  have a1 := A1.out
  have a2 := A2.out
  have a3 := A3.out
  have a4 := A4.out
  have b1 := B1.out
  have b2 := B2.out
  have b3 := B3.out
  have b4 := B4.out
  go_quiet (fail)
  clear a1 a2 a3 a4 b1 b2 b3 b4 f0 f1 f2
  have GQ := Lib.hid (grownDrewNE G1.out nq)
  go_wp2_with fail
  go_at_call 27
  refine (gcd_is a b g _ (HT.out.grown GQ.out) G.out).mono ?_
  rintro e w2 ⟨rfl, hgg⟩
  have hS : Held w w2 := grownTrans GQ.out hgg
  clear hgg
  go_wp2_with fail
  have m0 : decide (g < 1) = false := by simp; omega
  have m1 := M1.out
  have m2 := M2.out
  have m3 := M3.out
  have d1 := D1.out
  have d2 := D2.out
  have na := NA.out
  have gz : (g == 0) = false := by simp; omega
  have kz : (k == 0) = false := by simp; omega
  have gz2 : ¬ g = 0 := by omega
  have kz2 : ¬ k = 0 := by omega
  go_region_held3 (fun w' => Held w w') (first | assumption | exact Held.drew (by assumption) | exact Held.next (by assumption) (by assumption)) (first | (go_at_call 27; ((with_reducible refine (gcd_is b (-a) g _ (Held.tab (by assumption) HT.out) G2.out).mono ?_); rintro e w3 ⟨rfl, hg3⟩)) | (go_at_call 27; ((with_reducible refine (gcd_is ag bg 1 _ (Held.tab (by assumption) HT.out) G3.out).mono ?_); rintro e w3 ⟨rfl, hg3⟩)))
  clear m1 m2 m3 d1 d2 na
  have dv := DV.out
  go_wp2_with fail
  go_at_call 29
  refine (lcm_new [a, b] _ (Held.tab (by assumption) HT.out) (by simp) (ag * b, true) L.out).mono ?_
  rintro e w4 ⟨rfl, hg4⟩
  have hE : Held w w4 := grownTrans (Grown.alloc (by assumption) _ _) hg4
  go_wp2_with (go_at_call 31; ((with_reducible refine (is_true _ _).mono ?_); rintro e w' ⟨rfl, rfl⟩))
  go_ret
  exact ⟨rfl, hE⟩

theorem gcdS_of (a b : Int) (ha : -1125899906842624 ≤ a ∧ a ≤ 1125899906842624) (hb : -1125899906842624 ≤ b ∧ b ≤ 1125899906842624) : gcdS a b = (a.natAbs.gcd b.natAbs : Int) := by
  unfold gcdS; rw [if_pos ⟨(inB_iff a).2 ha, (inB_iff b).2 hb⟩]

/-- The arithmetic of the divisor and the multiple of two positive numbers with the common factor k. -/
theorem shares_nat (k a b : Nat) (ha : 1 ≤ a ∧ a ≤ 33554432) (hb : 1 ≤ b ∧ b ≤ 33554432) (ka : k ∣ a) (kb : k ∣ b) :
    ∃ g : Int, gcdS a b = g ∧ 1 ≤ g ∧ g ≤ 33554432 ∧ gcdS b (-(a : Int)) = g ∧ (a : Int) % g = 0 ∧ (b : Int) % g = 0 ∧ g % (k : Int) = 0 ∧ gcdS (a / g) (b / g) = 1 ∧ 1 ≤ a / g ∧ a / g ≤ 33554432 ∧ lcmS [(a : Int), (b : Int)] = (a / g * b, true) ∧ 0 ≤ a / g * b ∧ a / g * b ≤ 1125899906842624 := by
  have ge : gcdS a b = (a.gcd b : Int) := by rw [gcdS_of _ _ (by omega) (by omega), Int.natAbs_natCast, Int.natAbs_natCast]
  have ge2 : gcdS b (-(a : Int)) = (a.gcd b : Int) := by rw [gcdS_of _ _ (by omega) (by omega), Int.natAbs_neg, Int.natAbs_natCast, Int.natAbs_natCast, Nat.gcd_comm]
  obtain ⟨g1, e, d1, d2⟩ := lcm_step a b _ ⟨by omega, by omega⟩ ⟨by omega, by omega⟩ ge
  have le := Nat.gcd_le_left b (show 0 < a by omega)
  have da := Nat.gcd_dvd_left a b
  have db := Nat.gcd_dvd_right a b
  have dk := Nat.dvd_gcd ka kb
  have gp := Nat.gcd_pos_of_pos_left b (show 0 < a by omega)
  have co := Nat.coprime_div_gcd_div_gcd (m := a) (n := b) gp
  unfold Nat.Coprime at co
  have qa := Nat.div_le_self a (a.gcd b)
  have qb := Nat.div_le_self b (a.gcd b)
  have pr : a / a.gcd b * b ≤ 33554432 * 33554432 := Nat.mul_le_mul (by omega) hb.2
  have lc : lcmS [(a : Int), (b : Int)] = ((a : Int) / (a.gcd b : Int) * b, true) := by
    unfold lcmS
    have hall : allIn [(a : Int), (b : Int)] = true := by
      have ia : inB (a : Int) = true := (inB_iff _).2 (by omega)
      have ib : inB (b : Int) = true := (inB_iff _).2 (by omega)
      simp [allIn, ia, ib]
    have l1 : lcmI 1 a = a := by unfold lcmI; rw [show Int.natAbs 1 = 1 from rfl, Nat.lcm_one_left, Int.natAbs_natCast]
    have l2 : (a : Int) / (a.gcd b : Int) * b ≤ 1125899906842624 := by
      rw [show (a : Int) / (a.gcd b : Int) * b = ((a / a.gcd b * b : Nat) : Int) by simp]
      generalize a / a.gcd b * b = z at *
      omega
    rw [if_pos hall, lcmGo_cons, l1, if_pos ⟨by omega, by omega⟩, lcmGo_cons, ← e, if_pos ⟨by omega, l2⟩]
    rfl
  refine ⟨(a.gcd b : Int), ge, g1, by omega, ge2, Int.emod_eq_zero_of_dvd (Int.natCast_dvd_natCast.2 da), Int.emod_eq_zero_of_dvd (Int.natCast_dvd_natCast.2 db), Int.emod_eq_zero_of_dvd (Int.natCast_dvd_natCast.2 dk), ?_, d1, ?_, lc, ?_, ?_⟩
  · rw [show (a : Int) / (a.gcd b : Int) = ((a / a.gcd b : Nat) : Int) from rfl, show (b : Int) / (a.gcd b : Int) = ((b / a.gcd b : Nat) : Int) from rfl]
    generalize a / a.gcd b = u at *
    generalize b / a.gcd b = v at *
    rw [gcdS_of _ _ (by omega) (by omega), Int.natAbs_natCast, Int.natAbs_natCast, co]; rfl
  · rw [show (a : Int) / (a.gcd b : Int) = ((a / a.gcd b : Nat) : Int) from rfl]
    generalize a / a.gcd b = u at *
    omega
  · exact Int.mul_nonneg (by omega) (by omega)
  · rw [show (a : Int) / (a.gcd b : Int) * b = ((a / a.gcd b * b : Nat) : Int) by simp]
    generalize a / a.gcd b * b = z at *
    omega

theorem shares_math (k a b : Int) (hk : 1 ≤ k) (ha : 1 ≤ a ∧ a ≤ 33554432) (hb : 1 ≤ b ∧ b ≤ 33554432) (ka : k ∣ a) (kb : k ∣ b) :
    ∃ g, gcdS a b = g ∧ 1 ≤ g ∧ g ≤ 33554432 ∧ gcdS b (-a) = g ∧ a % g = 0 ∧ b % g = 0 ∧ g % k = 0 ∧ gcdS (a / g) (b / g) = 1 ∧ 1 ≤ a / g ∧ a / g ≤ 33554432 ∧ lcmS [a, b] = (a / g * b, true) ∧ 0 ≤ a / g * b ∧ a / g * b ≤ 1125899906842624 := by
  obtain ⟨k, rfl⟩ := Int.eq_ofNat_of_zero_le (show 0 ≤ k by omega)
  obtain ⟨a, rfl⟩ := Int.eq_ofNat_of_zero_le (show 0 ≤ a by omega)
  obtain ⟨b, rfl⟩ := Int.eq_ofNat_of_zero_le (show 0 ≤ b by omega)
  exact shares_nat k a b (by omega) (by omega) (Int.natCast_dvd_natCast.1 ka) (Int.natCast_dvd_natCast.1 kb)

theorem word_wf {n : Int} (h : (Lit.int .u32 n).wf = true) : 0 ≤ n ∧ n ≤ 4294967295 := by
  simp [Lit.wf, IntKind.min, IntKind.max, IntKind.signed, IntKind.bits] at h
  exact ⟨by omega, by omega⟩

theorem shares_true (n0 n1 n2 : Int) (w : World) (hT : Tab w) (h0 : 0 ≤ n0 ∧ n0 ≤ 4294967295) (h1 : 0 ≤ n1 ∧ n1 ≤ 4294967295) (h2 : 0 ≤ n2 ∧ n2 ≤ 4294967295) :
    Calls Tryd.prog 9 #[.agg #[.int .u32 n0, .int .u32 n1, .int .u32 n2]] w fun e w' => e = .returned (.bool true) ∧ Grown w w' := by
  obtain ⟨k, ek⟩ : ∃ z, 1 + n2 % 32 = z := ⟨_, rfl⟩
  have hx0 : n0.tmod 1048576 = n0 % 1048576 := Int.tmod_eq_emod_of_nonneg h0.1
  have hx1 : n1.tmod 1048576 = n1 % 1048576 := Int.tmod_eq_emod_of_nonneg h1.1
  obtain ⟨x0, ex0⟩ : ∃ z, n0 % 1048576 = z := ⟨_, rfl⟩
  obtain ⟨x1, ex1⟩ : ∃ z, n1 % 1048576 = z := ⟨_, rfl⟩
  rw [ex0] at hx0
  rw [ex1] at hx1
  obtain ⟨y0, ey0⟩ : ∃ z, 1 + x0 = z := ⟨_, rfl⟩
  obtain ⟨y1, ey1⟩ : ∃ z, 1 + x1 = z := ⟨_, rfl⟩
  have pa : k * y0 ≤ 32 * 1048576 := Int.mul_le_mul (by omega) (by omega) (by omega) (by omega)
  have pb : k * y1 ≤ 32 * 1048576 := Int.mul_le_mul (by omega) (by omega) (by omega) (by omega)
  have pa0 : 1 * 1 ≤ k * y0 := Int.mul_le_mul (by omega) (by omega) (by omega) (by omega)
  have pb0 : 1 * 1 ≤ k * y1 := Int.mul_le_mul (by omega) (by omega) (by omega) (by omega)
  have da : k ∣ k * y0 := Int.dvd_mul_right _ _
  have db : k ∣ k * y1 := Int.dvd_mul_right _ _
  obtain ⟨a, ea⟩ : ∃ z, k * y0 = z := ⟨_, rfl⟩
  obtain ⟨b, eb⟩ : ∃ z, k * y1 = z := ⟨_, rfl⟩
  rw [ea] at pa pa0 da
  rw [eb] at pb pb0 db
  obtain ⟨g, hg, g1, g2, h3, m1, m2, m3, co, d1, d2, lc, p0, p1⟩ := shares_math k a b (by omega) (by omega) (by omega) da db
  have t1 : a.tmod g = 0 := by rw [Int.tmod_eq_emod_of_nonneg (by omega)]; exact m1
  have t2 : b.tmod g = 0 := by rw [Int.tmod_eq_emod_of_nonneg (by omega)]; exact m2
  have t3 : g.tmod k = 0 := by rw [Int.tmod_eq_emod_of_nonneg (by omega)]; exact m3
  have e1 : IntKind.i64.wrap (a.tdiv g) = a / g := IntWalk.i64_quo a g ⟨by omega, by omega, g1⟩
  have e2 : IntKind.i64.wrap (b.tdiv g) = b / g := IntWalk.i64_quo b g ⟨by omega, by omega, g1⟩
  exact shares_core n0 n1 n2 k x0 x1 y0 y1 a b g (a / g) (b / g) w hT h0 h1 h2 (Lib.hid ek) (Lib.hid hx0) (Lib.hid (IntWalk.i64_in x0 (by omega))) (Lib.hid (by rw [ey0]; exact IntWalk.i64_in y0 (by omega))) (Lib.hid (by rw [ea]; exact IntWalk.i64_in a (by omega)))
    (Lib.hid hx1) (Lib.hid (IntWalk.i64_in x1 (by omega))) (Lib.hid (by rw [ey1]; exact IntWalk.i64_in y1 (by omega))) (Lib.hid (by rw [eb]; exact IntWalk.i64_in b (by omega)))
    (by omega) (by omega) (by omega) ⟨g1, g2⟩ ⟨d1, d2⟩ ⟨p0, p1⟩ (Lib.hid hg) (Lib.hid h3) (Lib.hid co) (Lib.hid lc) (Lib.hid t1) (Lib.hid t2) (Lib.hid t3) (Lib.hid e1) (Lib.hid e2) (Lib.hid (IntWalk.i64_in _ (by omega))) (Lib.hid rfl)

end Go.Proofs.YtbdjdmgohjjnaaaDoor
