/- What Cmp of the package rat returns. -/
import Derived.Test.YtiibpdameldblaaDoorOps
import Derived.Test.YtiibpdameldblaaDoorCmpMath
namespace Go.Proofs.YtiibpdameldblaaDoor
open Go Go.RowKit

/-- 'e' is the pair r, and the world has only grown. -/
def Two (r : Int × Int) (w : World) (e : Ending) (w' : World) : Prop := e = .returned (.tuple #[.int .i64 r.1, .int .i64 r.2]) ∧ Grown w w'

theorem cmp_no (a b c d : Int) (w : World) (hT : Tab w) (HB : Hid (bothS a b c d = 120)) : Calls Tryd.prog 24 #[.agg #[.int .i64 a, .int .i64 b], .agg #[.int .i64 c, .int .i64 d]] w (Two (0, 120) w) := by
  have HT := Lib.hid hT
  clear hT
  go_enter Tryd.func24, Tryd.ntmps24
  go_wp2_with fail
  go_at_call 50
  refine (checkAll_is a b c d 120 _ _ (HT.out.grown (by go_grown)) (by simp [go_sem]) HB.out).mono ?_
  rintro e w1 ⟨rfl, hg1⟩
  go_wp2_with fail
  go_ret2
  exact ⟨rfl, grownTrans (by go_grown) hg1⟩

theorem cmp_eq (a b : Int) (w : World) (hT : Tab w) (HB : Hid (bothS a b a b = 0)) : Calls Tryd.prog 24 #[.agg #[.int .i64 a, .int .i64 b], .agg #[.int .i64 a, .int .i64 b]] w (Two (0, 0) w) := by
  have HT := Lib.hid hT
  clear hT
  go_enter Tryd.func24, Tryd.ntmps24
  go_wp2_with fail
  go_at_call 50
  refine (checkAll_is a b a b 0 _ _ (HT.out.grown (by go_grown)) (by simp [go_sem]) HB.out).mono ?_
  rintro e w1 ⟨rfl, hg1⟩
  have c0 : w1.cell? ⟨w.heap.size, 0, none⟩ = some (.int .i64 a) := grownSome hg1 (by simp [go_sem])
  have c1 : w1.cell? ⟨w.heap.size, 1, none⟩ = some (.int .i64 b) := grownSome hg1 (by simp [go_sem])
  have c2 : w1.cell? ⟨w.heap.size + 1, 0, none⟩ = some (.int .i64 a) := grownSome hg1 (by simp [go_sem])
  have c3 : w1.cell? ⟨w.heap.size + 1, 1, none⟩ = some (.int .i64 b) := grownSome hg1 (by simp [go_sem])
  go_wp2_with fail
  go_ret2
  exact ⟨rfl, grownTrans (by go_grown) hg1⟩

theorem cmp_ne (a b c d P Q : Int) (r : Int) (w : World) (hT : Tab w) (HB : Hid (bothS a b c d = 0)) (hne : ¬ (a = c ∧ b = d)) (e1 : IntKind.i64.wrap (a * d) = P) (e2 : IntKind.i64.wrap (c * b) = Q) (hr : (P < Q ∧ r = -1) ∨ (Q ≤ P ∧ r = 1)) :
    Calls Tryd.prog 24 #[.agg #[.int .i64 a, .int .i64 b], .agg #[.int .i64 c, .int .i64 d]] w (Two (r, 0) w) := by
  have HT := Lib.hid hT
  have E1 := Lib.hid e1
  have E2 := Lib.hid e2
  clear hT e1 e2
  by_cases hac : a = c
  · subst hac
    have hbd : ¬ b = d := fun h => hne ⟨rfl, h⟩
    clear hne
    rcases hr with ⟨hlt, rfl⟩ | ⟨hlt, rfl⟩
    all_goals
      go_enter Tryd.func24, Tryd.ntmps24
      go_wp2_with fail
      go_at_call 50
      refine (checkAll_is a b a d 0 _ _ (HT.out.grown (by go_grown)) (by simp [go_sem]) HB.out).mono ?_
      rintro e w1 ⟨rfl, hg1⟩
      have c0 : w1.cell? ⟨w.heap.size, 0, none⟩ = some (.int .i64 a) := grownSome hg1 (by simp [go_sem])
      have c1 : w1.cell? ⟨w.heap.size, 1, none⟩ = some (.int .i64 b) := grownSome hg1 (by simp [go_sem])
      have c2 : w1.cell? ⟨w.heap.size + 1, 0, none⟩ = some (.int .i64 a) := grownSome hg1 (by simp [go_sem])
      have c3 : w1.cell? ⟨w.heap.size + 1, 1, none⟩ = some (.int .i64 d) := grownSome hg1 (by simp [go_sem])
      have K1 := E1.out
      have K2 := E2.out
      go_wp2_with fail
      go_ret2
      exact ⟨rfl, grownTrans (by go_grown) hg1⟩
  · clear hne
    rcases hr with ⟨hlt, rfl⟩ | ⟨hlt, rfl⟩
    all_goals
      go_enter Tryd.func24, Tryd.ntmps24
      go_wp2_with fail
      go_at_call 50
      refine (checkAll_is a b c d 0 _ _ (HT.out.grown (by go_grown)) (by simp [go_sem]) HB.out).mono ?_
      rintro e w1 ⟨rfl, hg1⟩
      have c0 : w1.cell? ⟨w.heap.size, 0, none⟩ = some (.int .i64 a) := grownSome hg1 (by simp [go_sem])
      have c1 : w1.cell? ⟨w.heap.size, 1, none⟩ = some (.int .i64 b) := grownSome hg1 (by simp [go_sem])
      have c2 : w1.cell? ⟨w.heap.size + 1, 0, none⟩ = some (.int .i64 c) := grownSome hg1 (by simp [go_sem])
      have c3 : w1.cell? ⟨w.heap.size + 1, 1, none⟩ = some (.int .i64 d) := grownSome hg1 (by simp [go_sem])
      have K1 := E1.out
      have K2 := E2.out
      go_wp2_with fail
      go_ret2
      exact ⟨rfl, grownTrans (by go_grown) hg1⟩

theorem cmp_any (a b c d : Int) (w : World) (hT : Tab w) : Calls Tryd.prog 24 #[.agg #[.int .i64 a, .int .i64 b], .agg #[.int .i64 c, .int .i64 d]] w (Two (cmpF a b c d) w) := by
  cases h : okB a b c d with
  | false =>
    rw [cmpF_no h]
    exact cmp_no a b c d w hT (Lib.hid (both_of_no h))
  | true =>
    rw [cmpF_yes h]
    have hk := okB_and h
    have hb := okB_bd h
    have HB := Lib.hid (both_of_yes h)
    have E1 := wrap_prod hb.1.1 hb.2.2
    have E2 := wrap_prod hb.2.1 hb.1.2
    rcases cmp_cases a b c d with ⟨h1, h2⟩ | ⟨h1, h2⟩ | ⟨h1, h2⟩
    · rw [h2]
      exact cmp_ne a b c d _ _ (-1) w hT HB (by rintro ⟨rfl, rfl⟩; omega) E1 E2 (Or.inl ⟨h1, rfl⟩)
    · rw [h2]
      obtain ⟨rfl, rfl⟩ := cross_eq hk.1 hk.2 h1
      exact cmp_eq a b w hT HB
    · rw [h2]
      exact cmp_ne a b c d _ _ 1 w hT HB (by rintro ⟨rfl, rfl⟩; omega) E1 E2 (Or.inr ⟨by omega, rfl⟩)

theorem cmp_is (a b c d : Int) (r : Int × Int) (w : World) (hT : Tab w) (h : cmpF a b c d = r) : Calls Tryd.prog 24 #[.agg #[.int .i64 a, .int .i64 b], .agg #[.int .i64 c, .int .i64 d]] w (Two r w) := h ▸ cmp_any a b c d w hT

end Go.Proofs.YtiibpdameldblaaDoor
