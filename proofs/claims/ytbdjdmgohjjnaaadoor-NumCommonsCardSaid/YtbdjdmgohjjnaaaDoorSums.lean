/- What Add and Sub, FloorDiv, CeilDiv and Mod of the package num return, for all integers. -/
import Derived.Test.YtbdjdmgohjjnaaaDoorRange
namespace Go.Proofs.YtbdjdmgohjjnaaaDoor
open Go Go.RowKit

theorem both_yes {a b : Int} (ha : inB a = true) (hb : inB b = true) : (inB a && inB b) = true := by rw [ha, hb]; rfl
theorem both_no {a b : Int} (h : ¬ (inB a = true ∧ inB b = true)) : (inB a && inB b) = false := by
  cases ha : inB a <;> cases hb : inB b <;> simp_all

theorem add_any (a b : Int) (w : World) : Calls Tryd.prog 12 #[.int .i64 a, .int .i64 b] w (Pair (addS a b) w) := by
  by_cases h : inB a = true ∧ inB b = true
  · have e1 : addS a b = resS (a + b) := by unfold addS; rw [if_pos h]
    have H := Lib.hid (both_yes h.1 h.2)
    have b1 := (inB_iff a).1 h.1
    have b2 := (inB_iff b).1 h.2
    rw [e1]; clear h e1
    go_enter Tryd.func12, Tryd.ntmps12
    go_wp2_with (first | (go_at_call 33; refine (inRange2 a b w true H.out).mono ?_; rintro e w' ⟨rfl, rfl⟩) | (go_at_call 34; refine (bounded_any (a + b) _).mono ?_; rintro e w' ⟨rfl, hg⟩))
    go_ret2
    exact ⟨rfl, grownTrans (by go_grown) hg⟩
  · have e1 : addS a b = (0, false) := by unfold addS; rw [if_neg h]
    have H := Lib.hid (both_no h)
    rw [e1]; clear h e1
    go_enter Tryd.func12, Tryd.ntmps12
    go_wp2_with (go_at_call 33; refine (inRange2 a b w false H.out).mono ?_; rintro e w' ⟨rfl, rfl⟩)
    go_ret2
    exact ⟨rfl, by go_grown⟩

theorem sub_any (a b : Int) (w : World) : Calls Tryd.prog 14 #[.int .i64 a, .int .i64 b] w (Pair (subS a b) w) := by
  by_cases h : inB a = true ∧ inB b = true
  · have e1 : subS a b = resS (a - b) := by unfold subS; rw [if_pos h]
    have H := Lib.hid (both_yes h.1 h.2)
    have b1 := (inB_iff a).1 h.1
    have b2 := (inB_iff b).1 h.2
    rw [e1]; clear h e1
    go_enter Tryd.func14, Tryd.ntmps14
    go_wp2_with (first | (go_at_call 33; refine (inRange2 a b w true H.out).mono ?_; rintro e w' ⟨rfl, rfl⟩) | (go_at_call 34; refine (bounded_any (a - b) _).mono ?_; rintro e w' ⟨rfl, hg⟩))
    go_ret2
    exact ⟨rfl, grownTrans (by go_grown) hg⟩
  · have e1 : subS a b = (0, false) := by unfold subS; rw [if_neg h]
    have H := Lib.hid (both_no h)
    rw [e1]; clear h e1
    go_enter Tryd.func14, Tryd.ntmps14
    go_wp2_with (go_at_call 33; refine (inRange2 a b w false H.out).mono ?_; rintro e w' ⟨rfl, rfl⟩)
    go_ret2
    exact ⟨rfl, by go_grown⟩

theorem both_ge {a b : Int} (h : ¬ (inB a = true ∧ inB b = true ∧ 1 ≤ b)) : (inB a && inB b) = false ∨ ((inB a && inB b) = true ∧ b < 1) := by
  cases ha : inB a <;> cases hb : inB b <;> simp_all

/-- Go's division, corrected, is the floor. -/
theorem floor_of_neg (a b : Int) (hb : 1 ≤ b) (h : a.tmod b < 0) : a.tdiv b - 1 = a / b := by
  have e := Int.mul_tdiv_add_tmod a b
  have h2 := Int.tmod_lt_of_pos (-a) (show 0 < b by omega)
  rw [Int.neg_tmod] at h2
  refine ((Int.ediv_emod_unique (show 0 < b by omega)).2 ⟨?_, ?_, ?_⟩ : a / b = a.tdiv b - 1 ∧ a % b = a.tmod b + b).1.symm
  · rw [Int.mul_sub]; omega
  · omega
  · omega
theorem floor_of_nonneg (a b : Int) (hb : 1 ≤ b) (h : ¬ a.tmod b < 0) : a.tdiv b = a / b := by
  have e := Int.mul_tdiv_add_tmod a b
  have h2 := Int.tmod_lt_of_pos a (show 0 < b by omega)
  refine ((Int.ediv_emod_unique (show 0 < b by omega)).2 ⟨?_, ?_, ?_⟩ : a / b = a.tdiv b ∧ a % b = a.tmod b).1.symm
  · omega
  · omega
  · omega
theorem tdiv_bounds (a b : Int) (h1 : -1125899906842624 ≤ a) (h2 : a ≤ 1125899906842624) : -1125899906842624 ≤ a.tdiv b ∧ a.tdiv b ≤ 1125899906842624 := by
  have e : (a.tdiv b).natAbs = a.natAbs / b.natAbs := Int.natAbs_tdiv a b
  have := Nat.div_le_self a.natAbs b.natAbs
  omega
theorem floor_bounds (a b : Int) (hb : 1 ≤ b) (h1 : -1125899906842624 ≤ a) (h2 : a ≤ 1125899906842624) : -1125899906842624 ≤ a / b ∧ a / b ≤ 1125899906842624 := by
  constructor
  · rw [Int.le_ediv_iff_mul_le (by omega)]
    have : (-1125899906842624 : Int) * b ≤ -1125899906842624 := by omega
    omega
  · by_cases h : 0 ≤ a
    · have := Int.ediv_le_self b h; omega
    · have : a / b ≤ 0 := by
        have := Int.ediv_le_ediv (c := b) (by omega) (show a ≤ 0 by omega)
        simpa using this
      omega

theorem floor_yes (a b : Int) (w : World) (ha : inB a = true) (hb : inB b = true) (h1 : 1 ≤ b) : Calls Tryd.prog 19 #[.int .i64 a, .int .i64 b] w (Pair (a / b, true) w) := by
  have H := Lib.hid (both_yes ha hb)
  have b1 := (inB_iff a).1 ha
  have b2 := (inB_iff b).1 hb
  have hq := tdiv_bounds a b b1.1 b1.2
  clear ha hb
  by_cases hr : a.tmod b < 0
  · have E := Lib.hid (floor_of_neg a b h1 hr)
    go_enter Tryd.func19, Tryd.ntmps19
    go_wp2_with (go_at_call 33; refine (inRange2 a b w true H.out).mono ?_; rintro e w' ⟨rfl, rfl⟩)
    go_ret2
    exact ⟨by rw [← E.out]; rfl, by go_grown⟩
  · have E := Lib.hid (floor_of_nonneg a b h1 hr)
    go_enter Tryd.func19, Tryd.ntmps19
    go_wp2_with (go_at_call 33; refine (inRange2 a b w true H.out).mono ?_; rintro e w' ⟨rfl, rfl⟩)
    go_ret2
    exact ⟨by rw [← E.out]; rfl, by go_grown⟩

theorem floor_no (a b : Int) (w : World) (h : ¬ (inB a = true ∧ inB b = true ∧ 1 ≤ b)) : Calls Tryd.prog 19 #[.int .i64 a, .int .i64 b] w (Pair (0, false) w) := by
  rcases both_ge h with h1 | ⟨h1, h2⟩
  · have H := Lib.hid h1
    clear h h1
    go_enter Tryd.func19, Tryd.ntmps19
    go_wp2_with (go_at_call 33; refine (inRange2 a b w false H.out).mono ?_; rintro e w' ⟨rfl, rfl⟩)
    go_ret2
    exact ⟨rfl, by go_grown⟩
  · have H := Lib.hid h1
    clear h h1
    go_enter Tryd.func19, Tryd.ntmps19
    go_wp2_with (go_at_call 33; refine (inRange2 a b w true H.out).mono ?_; rintro e w' ⟨rfl, rfl⟩)
    go_ret2
    exact ⟨rfl, by go_grown⟩

theorem floor_any (a b : Int) (w : World) : Calls Tryd.prog 19 #[.int .i64 a, .int .i64 b] w (Pair (floorS a b) w) := by
  unfold floorS
  by_cases h : inB a = true ∧ inB b = true ∧ 1 ≤ b
  · rw [if_pos h]; exact floor_yes a b w h.1 h.2.1 h.2.2
  · rw [if_neg h]; exact floor_no a b w h

theorem wrap_neg_out (a : Int) (h1 : -9223372036854775808 ≤ a) (h2 : a ≤ 9223372036854775807) (h : inB a = false) : inB (wrap64 (-a)) = false := by
  rw [inB_no] at h ⊢
  unfold wrap64; omega
theorem inB_neg {a : Int} (h : inB a = true) : inB (-a) = true := by
  rw [inB_iff] at h ⊢; omega

theorem ceil_no (a b : Int) (w : World) (w1 : Hid (-9223372036854775808 ≤ a ∧ a ≤ 9223372036854775807)) (h : ¬ (inB a = true ∧ inB b = true ∧ 1 ≤ b)) : Calls Tryd.prog 21 #[.int .i64 a, .int .i64 b] w (Pair (0, false) w) := by
  have H : Hid (¬ (inB (wrap64 (-a)) = true ∧ inB b = true ∧ 1 ≤ b)) := Lib.hid (by
    rintro ⟨x, y, z⟩
    cases ha : inB a with
    | true => exact h ⟨ha, y, z⟩
    | false => rw [wrap_neg_out a w1.out.1 w1.out.2 ha] at x; exact Bool.noConfusion x)
  clear h w1
  go_enter Tryd.func21, Tryd.ntmps21
  go_wp2_with (go_at_call 19; refine (floor_no (wrap64 (-a)) b _ H.out).mono ?_; rintro e w' ⟨rfl, hg⟩)
  go_ret2
  exact ⟨rfl, hg⟩

theorem ceil_yes (a b : Int) (w : World) (ha : inB a = true) (hb : inB b = true) (h1 : 1 ≤ b) : Calls Tryd.prog 21 #[.int .i64 a, .int .i64 b] w (Pair (-((-a) / b), true) w) := by
  have b1 := (inB_iff a).1 ha
  have hq := floor_bounds (-a) b h1 (by omega) (by omega)
  have A := Lib.hid (inB_neg ha)
  have HB := Lib.hid hb
  have H1 := Lib.hid h1
  generalize hq' : (-a) / b = q at hq
  have HQ := Lib.hid hq'
  clear ha hb h1 hq'
  go_enter Tryd.func21, Tryd.ntmps21
  go_wp2_with (go_at_call 19; refine (floor_yes (-a) b _ A.out HB.out H1.out).mono ?_; rw [HQ.out]; rintro e w' ⟨rfl, hg⟩)
  go_ret2
  exact ⟨rfl, hg⟩

theorem ceil_any (a b : Int) (w : World) (w1 : -9223372036854775808 ≤ a ∧ a ≤ 9223372036854775807) : Calls Tryd.prog 21 #[.int .i64 a, .int .i64 b] w (Pair (ceilS a b) w) := by
  unfold ceilS
  by_cases h : inB a = true ∧ inB b = true ∧ 1 ≤ b
  · rw [if_pos h]; exact ceil_yes a b w h.1 h.2.1 h.2.2
  · rw [if_neg h]; exact ceil_no a b w (Lib.hid w1) h

theorem mod_no (a b : Int) (w : World) (h : ¬ (inB a = true ∧ inB b = true ∧ 1 ≤ b)) : Calls Tryd.prog 23 #[.int .i64 a, .int .i64 b] w (Pair (0, false) w) := by
  have H := Lib.hid h
  clear h
  go_enter Tryd.func23, Tryd.ntmps23
  go_wp2_with (go_at_call 19; refine (floor_no a b _ H.out).mono ?_; rintro e w' ⟨rfl, hg⟩)
  go_ret2
  exact ⟨rfl, hg⟩

theorem mod_yes (a b : Int) (w : World) (ha : inB a = true) (hb : inB b = true) (h1 : 1 ≤ b) : Calls Tryd.prog 23 #[.int .i64 a, .int .i64 b] w (Pair (a % b, true) w) := by
  have b1 := (inB_iff a).1 ha
  have b2 := (inB_iff b).1 hb
  have e := Int.mul_ediv_add_emod a b
  have e1 := Int.emod_nonneg a (show b ≠ 0 by omega)
  have e2 := Int.emod_lt_of_pos a (show 0 < b by omega)
  have HM : Hid (a - b * (a / b) = a % b) := Lib.hid (by omega)
  have m1 : -2251799813685248 ≤ b * (a / b) := by omega
  have m2 : b * (a / b) ≤ 1125899906842624 := by omega
  generalize hq' : a / b = q at *
  have HQ := Lib.hid hq'
  have A := Lib.hid ha
  have HB := Lib.hid hb
  have H1 := Lib.hid h1
  clear ha hb h1 hq' e e1 e2
  go_enter Tryd.func23, Tryd.ntmps23
  go_wp2_with (go_at_call 19; refine (floor_yes a b _ A.out HB.out H1.out).mono ?_; rw [HQ.out]; rintro e w' ⟨rfl, hg⟩)
  go_ret2
  exact ⟨by rw [← HM.out]; rfl, hg⟩

theorem mod_any (a b : Int) (w : World) : Calls Tryd.prog 23 #[.int .i64 a, .int .i64 b] w (Pair (modS a b) w) := by
  unfold modS
  by_cases h : inB a = true ∧ inB b = true ∧ 1 ≤ b
  · rw [if_pos h]; exact mod_yes a b w h.1 h.2.1 h.2.2
  · rw [if_neg h]; exact mod_no a b w h

end Go.Proofs.YtbdjdmgohjjnaaaDoor
