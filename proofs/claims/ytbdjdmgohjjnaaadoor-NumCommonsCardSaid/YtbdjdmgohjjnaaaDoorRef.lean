/- What the reference's In, result, Add, Sub, FloorDiv, CeilDiv, Mod and abs return. -/
import Derived.Test.YtbdjdmgohjjnaaaDoorSums
import Derived.WalkLawsBesides
namespace Go.Proofs.YtbdjdmgohjjnaaaDoor
open Go Go.RowKit

theorem refIn_any (n : Int) (b : Bool) (w : World) (hb : inB n = b) : Calls Tryd.prog 35 #[.int .i64 n] w fun e w' => e = .returned (.bool b) ∧ w = w' := by
  by_cases h1 : n < -1125899906842624
  · have e : b = false := by rw [← hb, inB_no]; omega
    subst e; clear hb
    go_enter Tryd.func35, Tryd.ntmps35
    go_wp2
    go_ret
    exact ⟨rfl, rfl⟩
  · by_cases h2 : 1125899906842624 < n
    · have e : b = false := by rw [← hb, inB_no]; omega
      subst e; clear hb
      have h1' : -1125899906842624 ≤ n := by omega
      have d2 : decide (n ≤ 1125899906842624) = false := by simp; omega
      go_enter Tryd.func35, Tryd.ntmps35
      go_wp2
      go_ret
      exact ⟨rfl, rfl⟩
    · have e : b = true := by rw [← hb, inB_iff]; omega
      subst e; clear hb
      have h1' : -1125899906842624 ≤ n := by omega
      have h2' : n ≤ 1125899906842624 := by omega
      go_enter Tryd.func35, Tryd.ntmps35
      go_wp2
      go_ret
      exact ⟨rfl, rfl⟩

theorem refResult_any (n : Int) (w : World) : Calls Tryd.prog 36 #[.int .i64 n] w (Pair (resS n) w) := by
  cases hb : inB n with
  | true =>
    have e1 : resS n = (n, true) := by unfold resS; rw [if_pos hb]
    rw [e1]; have HB := Lib.hid hb; clear hb e1
    go_enter Tryd.func36, Tryd.ntmps36
    go_wp2_with (go_at_call 35; refine (refIn_any n true _ HB.out).mono ?_; rintro e w' ⟨rfl, rfl⟩)
    go_ret2
    exact ⟨rfl, by go_grown⟩
  | false =>
    have e1 : resS n = (0, false) := by unfold resS; rw [if_neg (by rw [hb]; simp)]
    rw [e1]; have HB := Lib.hid hb; clear hb e1
    go_enter Tryd.func36, Tryd.ntmps36
    go_wp2_with (go_at_call 35; refine (refIn_any n false _ HB.out).mono ?_; rintro e w' ⟨rfl, rfl⟩)
    go_ret2
    exact ⟨rfl, by go_grown⟩

theorem two_cases {a b : Int} (h : ¬ (inB a = true ∧ inB b = true)) : inB a = false ∨ (inB a = true ∧ inB b = false) := by
  cases ha : inB a <;> cases hb : inB b <;> simp_all

theorem refAdd_any (a b : Int) (w : World) : Calls Tryd.prog 13 #[.int .i64 a, .int .i64 b] w (Pair (addS a b) w) := by
  by_cases h : inB a = true ∧ inB b = true
  · have e1 : addS a b = resS (a + b) := by unfold addS; rw [if_pos h]
    have H1 := Lib.hid h.1
    have H2 := Lib.hid h.2
    have b1 := (inB_iff a).1 h.1
    have b2 := (inB_iff b).1 h.2
    rw [e1]; clear h e1
    go_enter Tryd.func13, Tryd.ntmps13
    go_wp2_with (first | (go_at_call 35; ((with_reducible refine (refIn_any a true _ H1.out).mono ?_); rintro e w' ⟨rfl, rfl⟩)) | (go_at_call 35; ((with_reducible refine (refIn_any b true _ H2.out).mono ?_); rintro e w' ⟨rfl, rfl⟩)) | (go_at_call 36; refine (refResult_any (a + b) _).mono ?_; rintro e w' ⟨rfl, hg⟩))
    go_ret2
    exact ⟨rfl, hg⟩
  · have e1 : addS a b = (0, false) := by unfold addS; rw [if_neg h]
    rw [e1]
    rcases two_cases h with h1 | ⟨h1, h2⟩
    · have H1 := Lib.hid h1
      clear h h1 e1
      go_enter Tryd.func13, Tryd.ntmps13
      go_wp2_with (go_at_call 35; ((with_reducible refine (refIn_any a false _ H1.out).mono ?_); rintro e w' ⟨rfl, rfl⟩))
      go_ret2
      exact ⟨rfl, by go_grown⟩
    · have H1 := Lib.hid h1
      have H2 := Lib.hid h2
      clear h h1 h2 e1
      go_enter Tryd.func13, Tryd.ntmps13
      go_wp2_with (first | (go_at_call 35; ((with_reducible refine (refIn_any a true _ H1.out).mono ?_); rintro e w' ⟨rfl, rfl⟩)) | (go_at_call 35; ((with_reducible refine (refIn_any b false _ H2.out).mono ?_); rintro e w' ⟨rfl, rfl⟩)))
      go_ret2
      exact ⟨rfl, by go_grown⟩

theorem refSub_any (a b : Int) (w : World) : Calls Tryd.prog 15 #[.int .i64 a, .int .i64 b] w (Pair (subS a b) w) := by
  by_cases h : inB a = true ∧ inB b = true
  · have e1 : subS a b = resS (a - b) := by unfold subS; rw [if_pos h]
    have H1 := Lib.hid h.1
    have H2 := Lib.hid h.2
    have b1 := (inB_iff a).1 h.1
    have b2 := (inB_iff b).1 h.2
    rw [e1]; clear h e1
    go_enter Tryd.func15, Tryd.ntmps15
    go_wp2_with (first | (go_at_call 35; ((with_reducible refine (refIn_any a true _ H1.out).mono ?_); rintro e w' ⟨rfl, rfl⟩)) | (go_at_call 35; ((with_reducible refine (refIn_any b true _ H2.out).mono ?_); rintro e w' ⟨rfl, rfl⟩)) | (go_at_call 36; refine (refResult_any (a - b) _).mono ?_; rintro e w' ⟨rfl, hg⟩))
    go_ret2
    exact ⟨rfl, hg⟩
  · have e1 : subS a b = (0, false) := by unfold subS; rw [if_neg h]
    rw [e1]
    rcases two_cases h with h1 | ⟨h1, h2⟩
    · have H1 := Lib.hid h1
      clear h h1 e1
      go_enter Tryd.func15, Tryd.ntmps15
      go_wp2_with (go_at_call 35; ((with_reducible refine (refIn_any a false _ H1.out).mono ?_); rintro e w' ⟨rfl, rfl⟩))
      go_ret2
      exact ⟨rfl, by go_grown⟩
    · have H1 := Lib.hid h1
      have H2 := Lib.hid h2
      clear h h1 h2 e1
      go_enter Tryd.func15, Tryd.ntmps15
      go_wp2_with (first | (go_at_call 35; ((with_reducible refine (refIn_any a true _ H1.out).mono ?_); rintro e w' ⟨rfl, rfl⟩)) | (go_at_call 35; ((with_reducible refine (refIn_any b false _ H2.out).mono ?_); rintro e w' ⟨rfl, rfl⟩)))
      go_ret2
      exact ⟨rfl, by go_grown⟩

theorem three_cases {a b : Int} (h : ¬ (inB a = true ∧ inB b = true ∧ 1 ≤ b)) : inB a = false ∨ (inB a = true ∧ inB b = false) ∨ (inB a = true ∧ inB b = true ∧ b < 1) := by
  cases ha : inB a <;> cases hb : inB b <;> simp_all

theorem refFloor_no (a b : Int) (w : World) (h : ¬ (inB a = true ∧ inB b = true ∧ 1 ≤ b)) : Calls Tryd.prog 20 #[.int .i64 a, .int .i64 b] w (Pair (0, false) w) := by
  rcases three_cases h with h1 | ⟨h1, h2⟩ | ⟨h1, h2, h3⟩
  · have H1 := Lib.hid h1
    clear h h1
    go_enter Tryd.func20, Tryd.ntmps20
    go_wp2_with (go_at_call 35; ((with_reducible refine (refIn_any a false _ H1.out).mono ?_); rintro e w' ⟨rfl, rfl⟩))
    go_ret2
    exact ⟨rfl, by go_grown⟩
  · have H1 := Lib.hid h1
    have H2 := Lib.hid h2
    clear h h1 h2
    go_enter Tryd.func20, Tryd.ntmps20
    go_wp2_with (first | (go_at_call 35; ((with_reducible refine (refIn_any a true _ H1.out).mono ?_); rintro e w' ⟨rfl, rfl⟩)) | (go_at_call 35; ((with_reducible refine (refIn_any b false _ H2.out).mono ?_); rintro e w' ⟨rfl, rfl⟩)))
    go_ret2
    exact ⟨rfl, by go_grown⟩
  · have H1 := Lib.hid h1
    have H2 := Lib.hid h2
    clear h h1 h2
    go_enter Tryd.func20, Tryd.ntmps20
    go_wp2_with (first | (go_at_call 35; ((with_reducible refine (refIn_any a true _ H1.out).mono ?_); rintro e w' ⟨rfl, rfl⟩)) | (go_at_call 35; ((with_reducible refine (refIn_any b true _ H2.out).mono ?_); rintro e w' ⟨rfl, rfl⟩)))
    go_ret2
    exact ⟨rfl, by go_grown⟩

theorem floor_great (a b : Int) (hb : 1 ≤ b) (h : a < a.tdiv b * b) : a.tdiv b - 1 = a / b := by
  have e := Int.mul_tdiv_add_tmod a b
  rw [Int.mul_comm] at e
  exact floor_of_neg a b hb (by omega)
theorem floor_notgreat (a b : Int) (hb : 1 ≤ b) (h : ¬ a < a.tdiv b * b) : a.tdiv b = a / b := by
  have e := Int.mul_tdiv_add_tmod a b
  rw [Int.mul_comm] at e
  exact floor_of_nonneg a b hb (by omega)
theorem tdiv_mul_bounds (a b : Int) (hb : 1 ≤ b) (hb2 : b ≤ 1125899906842624) (h1 : -1125899906842624 ≤ a) (h2 : a ≤ 1125899906842624) : -4503599627370496 ≤ a.tdiv b * b ∧ a.tdiv b * b ≤ 4503599627370496 := by
  have e := Int.mul_tdiv_add_tmod a b
  rw [Int.mul_comm] at e
  have m1 := Int.tmod_lt_of_pos a (show 0 < b by omega)
  have m2 := Int.tmod_lt_of_pos (-a) (show 0 < b by omega)
  rw [Int.neg_tmod] at m2
  omega

theorem refFloor_yes (a b : Int) (w : World) (ha : inB a = true) (hb : inB b = true) (h1 : 1 ≤ b) : Calls Tryd.prog 20 #[.int .i64 a, .int .i64 b] w (Pair (a / b, true) w) := by
  have H1 := Lib.hid ha
  have H2 := Lib.hid hb
  have b1 := (inB_iff a).1 ha
  have b2 := (inB_iff b).1 hb
  have hq := tdiv_bounds a b b1.1 b1.2
  have hm := tdiv_mul_bounds a b h1 b2.2 b1.1 b1.2
  clear ha hb
  by_cases hr : a < a.tdiv b * b
  · have E := Lib.hid (floor_great a b h1 hr)
    go_enter Tryd.func20, Tryd.ntmps20
    go_wp2_with (first | (go_at_call 35; ((with_reducible refine (refIn_any a true _ H1.out).mono ?_); rintro e w' ⟨rfl, rfl⟩)) | (go_at_call 35; ((with_reducible refine (refIn_any b true _ H2.out).mono ?_); rintro e w' ⟨rfl, rfl⟩)))
    go_ret2
    exact ⟨by rw [← E.out]; rfl, by go_grown⟩
  · have E := Lib.hid (floor_notgreat a b h1 hr)
    go_enter Tryd.func20, Tryd.ntmps20
    go_wp2_with (first | (go_at_call 35; ((with_reducible refine (refIn_any a true _ H1.out).mono ?_); rintro e w' ⟨rfl, rfl⟩)) | (go_at_call 35; ((with_reducible refine (refIn_any b true _ H2.out).mono ?_); rintro e w' ⟨rfl, rfl⟩)))
    go_ret2
    exact ⟨by rw [← E.out]; rfl, by go_grown⟩

theorem refFloor_any (a b : Int) (w : World) : Calls Tryd.prog 20 #[.int .i64 a, .int .i64 b] w (Pair (floorS a b) w) := by
  unfold floorS
  by_cases h : inB a = true ∧ inB b = true ∧ 1 ≤ b
  · rw [if_pos h]; exact refFloor_yes a b w h.1 h.2.1 h.2.2
  · rw [if_neg h]; exact refFloor_no a b w h

end Go.Proofs.YtbdjdmgohjjnaaaDoor
