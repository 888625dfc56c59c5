/- What Floor and Ceil of the reference return. -/
import Derived.Test.YtiibpdameldblaaDoorRefCmp
namespace Go.Proofs.YtiibpdameldblaaDoor
open Go Go.RowKit

theorem reffloor_no (a b : Int) (w : World) (H : Hid (okR a b = false)) : Calls Tryd.prog 31 #[.agg #[.int .i64 a, .int .i64 b]] w (Two (0, 120) w) := by
  go_enter Tryd.func31, Tryd.ntmps31
  go_wp2_with (go_at_call 41; ((with_reducible refine (right_is a b false _ H.out).mono ?_); rintro e w1 ⟨rfl, hg1⟩))
  go_ret2
  exact ⟨rfl, grownTrans (by go_grown) hg1⟩

theorem reffloor_yes (a b T P q : Int) (w : World) (H : Hid (okR a b = true)) (hb : 1 ≤ b) (ht : -1073741824 ≤ T ∧ T ≤ 1073741824) (e1 : Hid (IntKind.i64.wrap (a.tdiv b) = T)) (e2 : Hid (IntKind.i64.wrap (T * b) = P)) (hq : (a < P ∧ T - 1 = q) ∨ (P ≤ a ∧ T = q)) :
    Calls Tryd.prog 31 #[.agg #[.int .i64 a, .int .i64 b]] w (Two (q, 0) w) := by
  rcases hq with ⟨h1, rfl⟩ | ⟨h1, rfl⟩
  all_goals
    go_enter Tryd.func31, Tryd.ntmps31
    go_wp2_with fail
    go_at_call 41
    refine (right_is a b true _ H.out).mono ?_
    rintro e w1 ⟨rfl, hg1⟩
    have c0 : w1.cell? ⟨w.heap.size, 0, none⟩ = some (.int .i64 a) := grownSome hg1 (by simp [go_sem])
    have c1 : w1.cell? ⟨w.heap.size, 1, none⟩ = some (.int .i64 b) := grownSome hg1 (by simp [go_sem])
    have K1 := e1.out
    have K2 := e2.out
    go_wp2_with fail
    go_ret2
    exact ⟨rfl, grownTrans (by go_grown) hg1⟩

theorem floor_bd {a b : Int} (ha : -1073741824 ≤ a ∧ a ≤ 1073741824) (hb : 1 ≤ b) : -1073741824 ≤ a / b ∧ a / b ≤ 1073741824 := by
  have e := Int.mul_ediv_add_emod a b
  have m0 := Int.emod_nonneg a (show b ≠ 0 by omega)
  have m1 := Int.emod_lt_of_pos a (show 0 < b by omega)
  constructor
  · rw [Int.le_ediv_iff_mul_le (by omega)]
    have : (-1073741824 : Int) * b ≤ -1073741824 := by omega
    omega
  · by_cases h : 0 ≤ a
    · have := Int.ediv_le_self b h; omega
    · have : a / b ≤ 0 := by
        have := Int.ediv_le_ediv (c := b) (by omega) (show a ≤ 0 by omega)
        simpa using this
      omega
theorem tdiv_bd {a b : Int} (ha : -1073741824 ≤ a ∧ a ≤ 1073741824) : -1073741824 ≤ a.tdiv b ∧ a.tdiv b ≤ 1073741824 := by
  have e : (a.tdiv b).natAbs = a.natAbs / b.natAbs := Int.natAbs_tdiv a b
  have := Nat.div_le_self a.natAbs b.natAbs
  omega

theorem reffloor_any (a b : Int) (w : World) : Calls Tryd.prog 31 #[.agg #[.int .i64 a, .int .i64 b]] w (Two (floorF a b) w) := by
  unfold floorF
  cases h : okR a b with
  | false =>
    rw [if_neg (by simp)]
    exact reffloor_no a b w (Lib.hid h)
  | true =>
    rw [if_pos rfl]
    have hb := ok_bd h
    have h1 := (okR_iff a b).1 h
    have ht := tdiv_bd (b := b) hb.1
    refine reffloor_yes a b (a.tdiv b) (a.tdiv b * b) (a / b) w (Lib.hid h) h1.1 ht (Lib.hid (IntWalk.i64_in _ (by omega))) (Lib.hid (wrap_prod ht hb.2)) ?_
    rcases tdiv_floor a b h1.1 with ⟨h2, h3⟩ | ⟨h2, h3⟩
    · exact Or.inr ⟨h2, h3⟩
    · exact Or.inl ⟨h2, h3⟩

theorem reffloor_is (a b : Int) (r : Int × Int) (w : World) (h : floorF a b = r) : Calls Tryd.prog 31 #[.agg #[.int .i64 a, .int .i64 b]] w (Two r w) := h ▸ reffloor_any a b w

theorem refceil_no (a b : Int) (w : World) (H : Hid (floorF a b = (0, 120))) : Calls Tryd.prog 33 #[.agg #[.int .i64 a, .int .i64 b]] w (Two (0, 120) w) := by
  go_enter Tryd.func33, Tryd.ntmps33
  go_wp2_with fail
  go_at_call 31
  refine (reffloor_is a b (0, 120) _ H.out).mono ?_
  rintro _ w1 ⟨rfl, hg1⟩
  go_wp2_with fail
  go_ret2
  exact ⟨rfl, grownTrans (by go_grown) hg1⟩

theorem refceil_yes (a b q P r : Int) (w : World) (H : Hid (floorF a b = (q, 0))) (hq : -1073741824 ≤ q ∧ q ≤ 1073741824) (e2 : Hid (IntKind.i64.wrap (q * b) = P)) (hr : (P < a ∧ q + 1 = r) ∨ (a ≤ P ∧ q = r)) :
    Calls Tryd.prog 33 #[.agg #[.int .i64 a, .int .i64 b]] w (Two (r, 0) w) := by
  rcases hr with ⟨h1, rfl⟩ | ⟨h1, rfl⟩
  all_goals
    go_enter Tryd.func33, Tryd.ntmps33
    go_wp2_with fail
    go_at_call 31
    refine (reffloor_is a b (q, 0) _ H.out).mono ?_
    rintro _ w1 ⟨rfl, hg1⟩
    have c0 : w1.cell? ⟨w.heap.size, 0, none⟩ = some (.int .i64 a) := grownSome hg1 (by simp [go_sem])
    have c1 : w1.cell? ⟨w.heap.size, 1, none⟩ = some (.int .i64 b) := grownSome hg1 (by simp [go_sem])
    have K2 := e2.out
    go_wp2_with fail
    go_ret2
    exact ⟨rfl, grownTrans (by go_grown) hg1⟩

theorem refceil_any (a b : Int) (w : World) : Calls Tryd.prog 33 #[.agg #[.int .i64 a, .int .i64 b]] w (Two (ceilF a b) w) := by
  unfold ceilF
  cases h : okR a b with
  | false =>
    rw [if_neg (by simp)]
    exact refceil_no a b w (Lib.hid (by unfold floorF; rw [h, if_neg (by simp)]))
  | true =>
    rw [if_pos rfl]
    have hb := ok_bd h
    have h1 := (okR_iff a b).1 h
    have hf := floor_bd hb.1 h1.1
    refine refceil_yes a b (a / b) (a / b * b) _ w (Lib.hid (by unfold floorF; rw [if_pos h])) hf (Lib.hid (wrap_prod hf hb.2)) ?_
    rcases ceil_of_floor a b h1.1 with ⟨h2, h3⟩ | ⟨h2, h3⟩
    · exact Or.inr ⟨by omega, h3.symm⟩
    · exact Or.inl ⟨h2, h3.symm⟩

end Go.Proofs.YtiibpdameldblaaDoor
