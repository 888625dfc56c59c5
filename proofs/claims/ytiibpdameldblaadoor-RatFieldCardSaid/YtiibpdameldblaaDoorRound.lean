/- What Floor and Ceil of the package rat return. -/
import Derived.Test.YtiibpdameldblaaDoorCmp
namespace Go.Proofs.YtiibpdameldblaaDoor
open Go Go.RowKit

theorem round_no (a b : Int) (v : Value) (w : World) (hT : Tab w) (HC : Hid (checkS a b = 120)) : Calls Tryd.prog 52 #[.agg #[.int .i64 a, .int .i64 b], v] w (Two (0, 120) w) := by
  have HT := Lib.hid hT
  clear hT
  go_enter Tryd.func52, Tryd.ntmps52
  go_wp2_with fail
  go_at_call 12
  refine (check_is a b 120 _ (HT.out.grown (by go_grown)) HC.out).mono ?_
  rintro e w1 ⟨rfl, hg1⟩
  go_wp2_with fail
  go_ret2
  exact ⟨rfl, grownTrans (by go_grown) hg1⟩

theorem round_floor (a b q : Int) (ok : Bool) (w : World) (hT : Tab w) (_ha : -1073741824 ≤ a ∧ a ≤ 1073741824) (HC : Hid (checkS a b = 0)) (HQ : Hid (floorS a b = (q, ok))) : Calls Tryd.prog 52 #[.agg #[.int .i64 a, .int .i64 b], .func (.func 53) #[] #[]] w (Two (q, 0) w) := by
  have HT := Lib.hid hT
  clear hT
  go_enter Tryd.func52, Tryd.ntmps52
  go_wp2_with fail
  go_at_call 12
  refine (check_is a b 0 _ (HT.out.grown (by go_grown)) HC.out).mono ?_
  rintro e w1 ⟨rfl, hg1⟩
  have c00 : w1.cell? ⟨w.heap.size, 0, none⟩ = some (.int .i64 a) := grownSome hg1 (by simp [go_sem])
  have c01 : w1.cell? ⟨w.heap.size, 1, none⟩ = some (.int .i64 b) := grownSome hg1 (by simp [go_sem])
  go_wp2_with fail
  go_at_call 53
  refine (floor_any a b _).mono ?_
  rw [HQ.out]
  rintro e w2 ⟨rfl, hg2⟩
  go_wp2_with fail
  go_ret2
  exact ⟨rfl, grownTrans (grownTrans (by go_grown) hg1) hg2⟩

theorem round_ceil (a b q : Int) (ok : Bool) (w : World) (hT : Tab w) (_ha : -1073741824 ≤ a ∧ a ≤ 1073741824) (HC : Hid (checkS a b = 0)) (HQ : Hid (ceilS a b = (q, ok))) : Calls Tryd.prog 52 #[.agg #[.int .i64 a, .int .i64 b], .func (.func 54) #[] #[]] w (Two (q, 0) w) := by
  have HT := Lib.hid hT
  clear hT
  go_enter Tryd.func52, Tryd.ntmps52
  go_wp2_with fail
  go_at_call 12
  refine (check_is a b 0 _ (HT.out.grown (by go_grown)) HC.out).mono ?_
  rintro e w1 ⟨rfl, hg1⟩
  have c00 : w1.cell? ⟨w.heap.size, 0, none⟩ = some (.int .i64 a) := grownSome hg1 (by simp [go_sem])
  have c01 : w1.cell? ⟨w.heap.size, 1, none⟩ = some (.int .i64 b) := grownSome hg1 (by simp [go_sem])
  go_wp2_with fail
  go_at_call 54
  refine (ceil_any a b _ (by omega)).mono ?_
  rw [HQ.out]
  rintro e w2 ⟨rfl, hg2⟩
  go_wp2_with fail
  go_ret2
  exact ⟨rfl, grownTrans (grownTrans (by go_grown) hg1) hg2⟩

theorem rfloor_any (a b : Int) (w : World) (hT : Tab w) : Calls Tryd.prog 30 #[.agg #[.int .i64 a, .int .i64 b]] w (Two (floorF a b) w) := by
  have HT := Lib.hid hT
  clear hT
  unfold floorF
  cases h : okR a b with
  | false =>
    rw [if_neg (by simp)]
    have HC := Lib.hid (checkS_no h)
    clear h
    go_enter Tryd.func30, Tryd.ntmps30
    go_wp2_with fail
    go_at_call 52
    refine (round_no a b _ _ (HT.out.grown (by go_grown)) HC).mono ?_
    rintro e w1 ⟨rfl, hg1⟩
    go_wp2_with fail
    go_ret2
    exact ⟨rfl, grownTrans (by go_grown) hg1⟩
  | true =>
    rw [if_pos rfl]
    have HC := Lib.hid (checkS_yes h)
    have hb := (ok_bd h).1
    have h1 := (okR_iff a b).1 h
    have HQ : Hid (floorS a b = (a / b, true)) := Lib.hid (by unfold floorS; rw [if_pos ⟨(inB_iff a).2 (by omega), (inB_iff b).2 (by omega), by omega⟩])
    obtain ⟨q, hq⟩ : ∃ q, a / b = q := ⟨_, rfl⟩
    rw [hq] at HQ ⊢
    clear h h1 hq
    go_enter Tryd.func30, Tryd.ntmps30
    go_wp2_with fail
    go_at_call 52
    refine (round_floor a b q true _ (HT.out.grown (by go_grown)) hb HC HQ).mono ?_
    rintro e w1 ⟨rfl, hg1⟩
    go_wp2_with fail
    go_ret2
    exact ⟨rfl, grownTrans (by go_grown) hg1⟩

theorem rceil_any (a b : Int) (w : World) (hT : Tab w) : Calls Tryd.prog 32 #[.agg #[.int .i64 a, .int .i64 b]] w (Two (ceilF a b) w) := by
  have HT := Lib.hid hT
  clear hT
  unfold ceilF
  cases h : okR a b with
  | false =>
    rw [if_neg (by simp)]
    have HC := Lib.hid (checkS_no h)
    clear h
    go_enter Tryd.func32, Tryd.ntmps32
    go_wp2_with fail
    go_at_call 52
    refine (round_no a b _ _ (HT.out.grown (by go_grown)) HC).mono ?_
    rintro e w1 ⟨rfl, hg1⟩
    go_wp2_with fail
    go_ret2
    exact ⟨rfl, grownTrans (by go_grown) hg1⟩
  | true =>
    rw [if_pos rfl]
    have HC := Lib.hid (checkS_yes h)
    have hb := (ok_bd h).1
    have h1 := (okR_iff a b).1 h
    have HQ : Hid (ceilS a b = (-((-a) / b), true)) := Lib.hid (by unfold ceilS; rw [if_pos ⟨(inB_iff a).2 (by omega), (inB_iff b).2 (by omega), by omega⟩])
    obtain ⟨q, hq⟩ : ∃ q, -((-a) / b) = q := ⟨_, rfl⟩
    rw [hq] at HQ ⊢
    clear h h1 hq
    go_enter Tryd.func32, Tryd.ntmps32
    go_wp2_with fail
    go_at_call 52
    refine (round_ceil a b q true _ (HT.out.grown (by go_grown)) hb HC HQ).mono ?_
    rintro e w1 ⟨rfl, hg1⟩
    go_wp2_with fail
    go_ret2
    exact ⟨rfl, grownTrans (by go_grown) hg1⟩

end Go.Proofs.YtiibpdameldblaaDoor
