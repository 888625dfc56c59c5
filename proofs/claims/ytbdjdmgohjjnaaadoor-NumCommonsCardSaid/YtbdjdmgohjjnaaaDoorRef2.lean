/- What the reference's CeilDiv, Mod, abs and Gcd return. -/
import Derived.Test.YtbdjdmgohjjnaaaDoorRef
import Derived.Test.YtbdjdmgohjjnaaaDoorGcd
import Derived.Deep.QuietTactic
import Derived.BigQuiet
import Derived.RegionTactic
namespace Go.Proofs.YtbdjdmgohjjnaaaDoor
open Go Go.RowKit

theorem ceil_up (a b : Int) (hb : 1 ≤ b) (h : a / b * b < a) : a / b + 1 = -((-a) / b) := by
  have e := Int.mul_ediv_add_emod a b
  rw [Int.mul_comm] at e
  have m := Int.emod_lt_of_pos a (show 0 < b by omega)
  have := floor_neg1 (-a) b (a / b) (a % b) (by omega) (by omega) m
  omega
theorem ceil_same (a b : Int) (hb : 1 ≤ b) (h : ¬ a / b * b < a) : a / b = -((-a) / b) := by
  have e := Int.mul_ediv_add_emod a b
  rw [Int.mul_comm] at e
  have m0 := Int.emod_nonneg a (show b ≠ 0 by omega)
  have := floor_neg0 (-a) b (a / b) (by omega) (by omega)
  omega

theorem refCeil_no (a b : Int) (w : World) (h : ¬ (inB a = true ∧ inB b = true ∧ 1 ≤ b)) : Calls Tryd.prog 22 #[.int .i64 a, .int .i64 b] w (Pair (0, false) w) := by
  have H := Lib.hid h
  clear h
  go_enter Tryd.func22, Tryd.ntmps22
  go_wp2_with (go_at_call 20; refine (refFloor_no a b _ H.out).mono ?_; rintro e w' ⟨rfl, hg⟩)
  go_ret2
  exact ⟨rfl, hg⟩

theorem refCeil_yes (a b : Int) (w : World) (ha : inB a = true) (hb : inB b = true) (h1 : 1 ≤ b) : Calls Tryd.prog 22 #[.int .i64 a, .int .i64 b] w (Pair (-((-a) / b), true) w) := by
  have b1 := (inB_iff a).1 ha
  have b2 := (inB_iff b).1 hb
  have hq := floor_bounds a b h1 b1.1 b1.2
  have A := Lib.hid ha
  have HB := Lib.hid hb
  have H1 := Lib.hid h1
  have hm : -2251799813685248 ≤ a / b * b ∧ a / b * b ≤ 1125899906842624 := by
    have e := Int.mul_ediv_add_emod a b
    rw [Int.mul_comm] at e
    have m0 := Int.emod_nonneg a (show b ≠ 0 by omega)
    have m1 := Int.emod_lt_of_pos a (show 0 < b by omega)
    omega
  by_cases hr : a / b * b < a
  · have E := Lib.hid (ceil_up a b h1 hr)
    generalize hq' : a / b = q at *
    have HQ := Lib.hid hq'
    clear ha hb h1 hq'
    go_enter Tryd.func22, Tryd.ntmps22
    go_wp2_with (go_at_call 20; refine (refFloor_yes a b _ A.out HB.out H1.out).mono ?_; rw [HQ.out]; rintro e w' ⟨rfl, hg⟩)
    go_ret2
    exact ⟨by rw [← E.out]; rfl, hg⟩
  · have E := Lib.hid (ceil_same a b h1 hr)
    generalize hq' : a / b = q at *
    have HQ := Lib.hid hq'
    clear ha hb h1 hq'
    go_enter Tryd.func22, Tryd.ntmps22
    go_wp2_with (go_at_call 20; refine (refFloor_yes a b _ A.out HB.out H1.out).mono ?_; rw [HQ.out]; rintro e w' ⟨rfl, hg⟩)
    go_ret2
    exact ⟨by rw [← E.out]; rfl, hg⟩

theorem refCeil_any (a b : Int) (w : World) : Calls Tryd.prog 22 #[.int .i64 a, .int .i64 b] w (Pair (ceilS a b) w) := by
  unfold ceilS
  by_cases h : inB a = true ∧ inB b = true ∧ 1 ≤ b
  · rw [if_pos h]; exact refCeil_yes a b w h.1 h.2.1 h.2.2
  · rw [if_neg h]; exact refCeil_no a b w h

theorem refMod_no (a b : Int) (w : World) (h : ¬ (inB a = true ∧ inB b = true ∧ 1 ≤ b)) : Calls Tryd.prog 24 #[.int .i64 a, .int .i64 b] w (Pair (0, false) w) := by
  have H := Lib.hid h
  clear h
  go_enter Tryd.func24, Tryd.ntmps24
  go_wp2_with (go_at_call 20; refine (refFloor_no a b _ H.out).mono ?_; rintro e w' ⟨rfl, hg⟩)
  go_ret2
  exact ⟨rfl, hg⟩

theorem refMod_yes (a b : Int) (w : World) (ha : inB a = true) (hb : inB b = true) (h1 : 1 ≤ b) : Calls Tryd.prog 24 #[.int .i64 a, .int .i64 b] w (Pair (a % b, true) w) := by
  have b1 := (inB_iff a).1 ha
  have b2 := (inB_iff b).1 hb
  have e := Int.mul_ediv_add_emod a b
  rw [Int.mul_comm] at e
  have e1 := Int.emod_nonneg a (show b ≠ 0 by omega)
  have e2 := Int.emod_lt_of_pos a (show 0 < b by omega)
  have HM : Hid (a - a / b * b = a % b) := Lib.hid (by omega)
  have m1 : -2251799813685248 ≤ a / b * b := by omega
  have m2 : a / b * b ≤ 1125899906842624 := by omega
  generalize hq' : a / b = q at *
  have HQ := Lib.hid hq'
  have A := Lib.hid ha
  have HB := Lib.hid hb
  have H1 := Lib.hid h1
  clear ha hb h1 hq' e e1 e2
  go_enter Tryd.func24, Tryd.ntmps24
  go_wp2_with (go_at_call 20; refine (refFloor_yes a b _ A.out HB.out H1.out).mono ?_; rw [HQ.out]; rintro e w' ⟨rfl, hg⟩)
  go_ret2
  exact ⟨by rw [← HM.out]; rfl, hg⟩

theorem refMod_any (a b : Int) (w : World) : Calls Tryd.prog 24 #[.int .i64 a, .int .i64 b] w (Pair (modS a b) w) := by
  unfold modS
  by_cases h : inB a = true ∧ inB b = true ∧ 1 ≤ b
  · rw [if_pos h]; exact refMod_yes a b w h.1 h.2.1 h.2.2
  · rw [if_neg h]; exact refMod_no a b w h

/-- The absolute value, by a name of its own. -/
theorem refAbs (n A : Int) (w : World) (h1 : -1125899906842624 ≤ n) (h2 : n ≤ 1125899906842624) (hA : Hid ((n.natAbs : Int) = A)) :
    Calls Tryd.prog 40 #[.int .i64 n] w fun e w' => e = .returned (.int .i64 A) ∧ w = w' := by
  by_cases h : n < 0
  · go_enter Tryd.func40, Tryd.ntmps40
    go_wp2
    go_ret
    refine ⟨?_, rfl⟩
    rw [← hA.out]
    congr 2
    go_arith
  · go_enter Tryd.func40, Tryd.ntmps40
    go_wp2
    go_ret
    refine ⟨?_, rfl⟩
    rw [← hA.out]
    congr 2
    go_arith

end Go.Proofs.YtbdjdmgohjjnaaaDoor
