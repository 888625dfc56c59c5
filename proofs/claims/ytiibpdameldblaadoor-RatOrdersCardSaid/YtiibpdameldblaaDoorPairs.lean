/- What pairs of the law's package returns: the two fractions as they are, two valid ones, one of each. -/
import Derived.Test.YtiibpdameldblaaDoorRegion
namespace Go.Proofs.YtiibpdameldblaaDoor
open Go Go.RowKit
attribute [local go_sem ↓] Go.wp_at_zero Go.wp_at_succ

/-- Behind the region: two variables hold two fractions; what was there is as it was. -/
def PairsAt (W0 : World) (p q r s : Int) (v5 v6 : Value) (wx : World) : Prop :=
  ∃ X Y : Nat, v5 = .pointer (some ⟨X, 0, none⟩) ∧ v6 = .pointer (some ⟨Y, 0, none⟩) ∧ W0.heap.size ≤ X ∧ W0.heap.size ≤ Y ∧ wx.cell? ⟨X, 0, none⟩ = some (.int .i64 p) ∧ wx.cell? ⟨X, 1, none⟩ = some (.int .i64 q) ∧ wx.cell? ⟨Y, 0, none⟩ = some (.int .i64 r) ∧ wx.cell? ⟨Y, 1, none⟩ = some (.int .i64 s) ∧ Grown W0 wx

set_option maxHeartbeats 8000000 in
set_option maxRecDepth 100000 in
theorem pairs_any (a b c d p q r s : Int) (w : World) (H1 : Hid (ofS a b = (p, q))) (H2 : Hid (ofS c d = (r, s))) :
    Calls Tryd.prog 15 #[.agg #[.int .i64 a, .int .i64 b], .agg #[.int .i64 c, .int .i64 d]] w fun e w' => e = .returned (.agg #[.int .i64 a, .int .i64 b, .int .i64 c, .int .i64 d, .int .i64 p, .int .i64 q, .int .i64 r, .int .i64 s, .int .i64 a, .int .i64 b, .int .i64 r, .int .i64 s, .int .i64 p, .int .i64 q, .int .i64 p, .int .i64 q]) ∧ Grown w w' := by
  have hof : ∀ w, Calls Tryd.prog 43 #[.int .i64 a, .int .i64 b] w (One (p, q) w) := fun w => by have := of_any a b w; rwa [H1.out] at this
  have hof2 : ∀ w, Calls Tryd.prog 43 #[.int .i64 c, .int .i64 d] w (One (r, s) w) := fun w => by have := of_any c d w; rwa [H2.out] at this
  have HO := Lib.hid hof
  have HO2 := Lib.hid hof2
  clear hof hof2
  go_enter Tryd.func15, Tryd.ntmps15
  go_upto_region 1 with fail
  have GZ : Grown (((w.alloc (.cells #[.int .i64 a, .int .i64 b] 23)).alloc (.cells #[.int .i64 c, .int .i64 d] 23)).alloc (.cells #[.int .i64 0, .int .i64 0, .int .i64 0, .int .i64 0, .int .i64 0, .int .i64 0, .int .i64 0, .int .i64 0, .int .i64 0, .int .i64 0, .int .i64 0, .int .i64 0, .int .i64 0, .int .i64 0, .int .i64 0, .int .i64 0] 34)) (((w.alloc (.cells #[.int .i64 a, .int .i64 b] 23)).alloc (.cells #[.int .i64 c, .int .i64 d] 23)).alloc (.cells #[.int .i64 0, .int .i64 0, .int .i64 0, .int .i64 0, .int .i64 0, .int .i64 0, .int .i64 0, .int .i64 0, .int .i64 0, .int .i64 0, .int .i64 0, .int .i64 0, .int .i64 0, .int .i64 0, .int .i64 0, .int .i64 0] 34)) := Grown.refl _
  have GW : Hid (Grown w (((w.alloc (.cells #[.int .i64 a, .int .i64 b] 23)).alloc (.cells #[.int .i64 c, .int .i64 d] 23)).alloc (.cells #[.int .i64 0, .int .i64 0, .int .i64 0, .int .i64 0, .int .i64 0, .int .i64 0, .int .i64 0, .int .i64 0, .int .i64 0, .int .i64 0, .int .i64 0, .int .i64 0, .int .i64 0, .int .i64 0, .int .i64 0, .int .i64 0] 34))) := Lib.hid (by go_grown)
  have c00 : (((w.alloc (.cells #[.int .i64 a, .int .i64 b] 23)).alloc (.cells #[.int .i64 c, .int .i64 d] 23)).alloc (.cells #[.int .i64 0, .int .i64 0, .int .i64 0, .int .i64 0, .int .i64 0, .int .i64 0, .int .i64 0, .int .i64 0, .int .i64 0, .int .i64 0, .int .i64 0, .int .i64 0, .int .i64 0, .int .i64 0, .int .i64 0, .int .i64 0] 34)).cell? ⟨w.heap.size, 0, none⟩ = some (.int .i64 a) := grownSome GZ (by simp [go_sem])
  have c01 : (((w.alloc (.cells #[.int .i64 a, .int .i64 b] 23)).alloc (.cells #[.int .i64 c, .int .i64 d] 23)).alloc (.cells #[.int .i64 0, .int .i64 0, .int .i64 0, .int .i64 0, .int .i64 0, .int .i64 0, .int .i64 0, .int .i64 0, .int .i64 0, .int .i64 0, .int .i64 0, .int .i64 0, .int .i64 0, .int .i64 0, .int .i64 0, .int .i64 0] 34)).cell? ⟨w.heap.size, 1, none⟩ = some (.int .i64 b) := grownSome GZ (by simp [go_sem])
  have c10 : (((w.alloc (.cells #[.int .i64 a, .int .i64 b] 23)).alloc (.cells #[.int .i64 c, .int .i64 d] 23)).alloc (.cells #[.int .i64 0, .int .i64 0, .int .i64 0, .int .i64 0, .int .i64 0, .int .i64 0, .int .i64 0, .int .i64 0, .int .i64 0, .int .i64 0, .int .i64 0, .int .i64 0, .int .i64 0, .int .i64 0, .int .i64 0, .int .i64 0] 34)).cell? ⟨w.heap.size + 1, 0, none⟩ = some (.int .i64 c) := grownSome GZ (by simp [go_sem])
  have c11 : (((w.alloc (.cells #[.int .i64 a, .int .i64 b] 23)).alloc (.cells #[.int .i64 c, .int .i64 d] 23)).alloc (.cells #[.int .i64 0, .int .i64 0, .int .i64 0, .int .i64 0, .int .i64 0, .int .i64 0, .int .i64 0, .int .i64 0, .int .i64 0, .int .i64 0, .int .i64 0, .int .i64 0, .int .i64 0, .int .i64 0, .int .i64 0, .int .i64 0] 34)).cell? ⟨w.heap.size + 1, 1, none⟩ = some (.int .i64 d) := grownSome GZ (by simp [go_sem])
  have c20 : (((w.alloc (.cells #[.int .i64 a, .int .i64 b] 23)).alloc (.cells #[.int .i64 c, .int .i64 d] 23)).alloc (.cells #[.int .i64 0, .int .i64 0, .int .i64 0, .int .i64 0, .int .i64 0, .int .i64 0, .int .i64 0, .int .i64 0, .int .i64 0, .int .i64 0, .int .i64 0, .int .i64 0, .int .i64 0, .int .i64 0, .int .i64 0, .int .i64 0] 34)).cell? ⟨w.heap.size + 1 + 1, 0, none⟩ = some (.int .i64 0) := grownSome GZ (by simp [go_sem])
  have fc20 : (((w.alloc (.cells #[.int .i64 a, .int .i64 b] 23)).alloc (.cells #[.int .i64 c, .int .i64 d] 23)).alloc (.cells #[.int .i64 0, .int .i64 0, .int .i64 0, .int .i64 0, .int .i64 0, .int .i64 0, .int .i64 0, .int .i64 0, .int .i64 0, .int .i64 0, .int .i64 0, .int .i64 0, .int .i64 0, .int .i64 0, .int .i64 0, .int .i64 0] 34)).frozen? ⟨w.heap.size + 1 + 1, 0, none⟩ = false := (GZ.2.1 _).trans (by simp [go_sem])
  have c21 : (((w.alloc (.cells #[.int .i64 a, .int .i64 b] 23)).alloc (.cells #[.int .i64 c, .int .i64 d] 23)).alloc (.cells #[.int .i64 0, .int .i64 0, .int .i64 0, .int .i64 0, .int .i64 0, .int .i64 0, .int .i64 0, .int .i64 0, .int .i64 0, .int .i64 0, .int .i64 0, .int .i64 0, .int .i64 0, .int .i64 0, .int .i64 0, .int .i64 0] 34)).cell? ⟨w.heap.size + 1 + 1, 1, none⟩ = some (.int .i64 0) := grownSome GZ (by simp [go_sem])
  have fc21 : (((w.alloc (.cells #[.int .i64 a, .int .i64 b] 23)).alloc (.cells #[.int .i64 c, .int .i64 d] 23)).alloc (.cells #[.int .i64 0, .int .i64 0, .int .i64 0, .int .i64 0, .int .i64 0, .int .i64 0, .int .i64 0, .int .i64 0, .int .i64 0, .int .i64 0, .int .i64 0, .int .i64 0, .int .i64 0, .int .i64 0, .int .i64 0, .int .i64 0] 34)).frozen? ⟨w.heap.size + 1 + 1, 1, none⟩ = false := (GZ.2.1 _).trans (by simp [go_sem])
  have c22 : (((w.alloc (.cells #[.int .i64 a, .int .i64 b] 23)).alloc (.cells #[.int .i64 c, .int .i64 d] 23)).alloc (.cells #[.int .i64 0, .int .i64 0, .int .i64 0, .int .i64 0, .int .i64 0, .int .i64 0, .int .i64 0, .int .i64 0, .int .i64 0, .int .i64 0, .int .i64 0, .int .i64 0, .int .i64 0, .int .i64 0, .int .i64 0, .int .i64 0] 34)).cell? ⟨w.heap.size + 1 + 1, 2, none⟩ = some (.int .i64 0) := grownSome GZ (by simp [go_sem])
  have fc22 : (((w.alloc (.cells #[.int .i64 a, .int .i64 b] 23)).alloc (.cells #[.int .i64 c, .int .i64 d] 23)).alloc (.cells #[.int .i64 0, .int .i64 0, .int .i64 0, .int .i64 0, .int .i64 0, .int .i64 0, .int .i64 0, .int .i64 0, .int .i64 0, .int .i64 0, .int .i64 0, .int .i64 0, .int .i64 0, .int .i64 0, .int .i64 0, .int .i64 0] 34)).frozen? ⟨w.heap.size + 1 + 1, 2, none⟩ = false := (GZ.2.1 _).trans (by simp [go_sem])
  have c23 : (((w.alloc (.cells #[.int .i64 a, .int .i64 b] 23)).alloc (.cells #[.int .i64 c, .int .i64 d] 23)).alloc (.cells #[.int .i64 0, .int .i64 0, .int .i64 0, .int .i64 0, .int .i64 0, .int .i64 0, .int .i64 0, .int .i64 0, .int .i64 0, .int .i64 0, .int .i64 0, .int .i64 0, .int .i64 0, .int .i64 0, .int .i64 0, .int .i64 0] 34)).cell? ⟨w.heap.size + 1 + 1, 3, none⟩ = some (.int .i64 0) := grownSome GZ (by simp [go_sem])
  have fc23 : (((w.alloc (.cells #[.int .i64 a, .int .i64 b] 23)).alloc (.cells #[.int .i64 c, .int .i64 d] 23)).alloc (.cells #[.int .i64 0, .int .i64 0, .int .i64 0, .int .i64 0, .int .i64 0, .int .i64 0, .int .i64 0, .int .i64 0, .int .i64 0, .int .i64 0, .int .i64 0, .int .i64 0, .int .i64 0, .int .i64 0, .int .i64 0, .int .i64 0] 34)).frozen? ⟨w.heap.size + 1 + 1, 3, none⟩ = false := (GZ.2.1 _).trans (by simp [go_sem])
  have c24 : (((w.alloc (.cells #[.int .i64 a, .int .i64 b] 23)).alloc (.cells #[.int .i64 c, .int .i64 d] 23)).alloc (.cells #[.int .i64 0, .int .i64 0, .int .i64 0, .int .i64 0, .int .i64 0, .int .i64 0, .int .i64 0, .int .i64 0, .int .i64 0, .int .i64 0, .int .i64 0, .int .i64 0, .int .i64 0, .int .i64 0, .int .i64 0, .int .i64 0] 34)).cell? ⟨w.heap.size + 1 + 1, 4, none⟩ = some (.int .i64 0) := grownSome GZ (by simp [go_sem])
  have fc24 : (((w.alloc (.cells #[.int .i64 a, .int .i64 b] 23)).alloc (.cells #[.int .i64 c, .int .i64 d] 23)).alloc (.cells #[.int .i64 0, .int .i64 0, .int .i64 0, .int .i64 0, .int .i64 0, .int .i64 0, .int .i64 0, .int .i64 0, .int .i64 0, .int .i64 0, .int .i64 0, .int .i64 0, .int .i64 0, .int .i64 0, .int .i64 0, .int .i64 0] 34)).frozen? ⟨w.heap.size + 1 + 1, 4, none⟩ = false := (GZ.2.1 _).trans (by simp [go_sem])
  have c25 : (((w.alloc (.cells #[.int .i64 a, .int .i64 b] 23)).alloc (.cells #[.int .i64 c, .int .i64 d] 23)).alloc (.cells #[.int .i64 0, .int .i64 0, .int .i64 0, .int .i64 0, .int .i64 0, .int .i64 0, .int .i64 0, .int .i64 0, .int .i64 0, .int .i64 0, .int .i64 0, .int .i64 0, .int .i64 0, .int .i64 0, .int .i64 0, .int .i64 0] 34)).cell? ⟨w.heap.size + 1 + 1, 5, none⟩ = some (.int .i64 0) := grownSome GZ (by simp [go_sem])
  have fc25 : (((w.alloc (.cells #[.int .i64 a, .int .i64 b] 23)).alloc (.cells #[.int .i64 c, .int .i64 d] 23)).alloc (.cells #[.int .i64 0, .int .i64 0, .int .i64 0, .int .i64 0, .int .i64 0, .int .i64 0, .int .i64 0, .int .i64 0, .int .i64 0, .int .i64 0, .int .i64 0, .int .i64 0, .int .i64 0, .int .i64 0, .int .i64 0, .int .i64 0] 34)).frozen? ⟨w.heap.size + 1 + 1, 5, none⟩ = false := (GZ.2.1 _).trans (by simp [go_sem])
  have c26 : (((w.alloc (.cells #[.int .i64 a, .int .i64 b] 23)).alloc (.cells #[.int .i64 c, .int .i64 d] 23)).alloc (.cells #[.int .i64 0, .int .i64 0, .int .i64 0, .int .i64 0, .int .i64 0, .int .i64 0, .int .i64 0, .int .i64 0, .int .i64 0, .int .i64 0, .int .i64 0, .int .i64 0, .int .i64 0, .int .i64 0, .int .i64 0, .int .i64 0] 34)).cell? ⟨w.heap.size + 1 + 1, 6, none⟩ = some (.int .i64 0) := grownSome GZ (by simp [go_sem])
  have fc26 : (((w.alloc (.cells #[.int .i64 a, .int .i64 b] 23)).alloc (.cells #[.int .i64 c, .int .i64 d] 23)).alloc (.cells #[.int .i64 0, .int .i64 0, .int .i64 0, .int .i64 0, .int .i64 0, .int .i64 0, .int .i64 0, .int .i64 0, .int .i64 0, .int .i64 0, .int .i64 0, .int .i64 0, .int .i64 0, .int .i64 0, .int .i64 0, .int .i64 0] 34)).frozen? ⟨w.heap.size + 1 + 1, 6, none⟩ = false := (GZ.2.1 _).trans (by simp [go_sem])
  have c27 : (((w.alloc (.cells #[.int .i64 a, .int .i64 b] 23)).alloc (.cells #[.int .i64 c, .int .i64 d] 23)).alloc (.cells #[.int .i64 0, .int .i64 0, .int .i64 0, .int .i64 0, .int .i64 0, .int .i64 0, .int .i64 0, .int .i64 0, .int .i64 0, .int .i64 0, .int .i64 0, .int .i64 0, .int .i64 0, .int .i64 0, .int .i64 0, .int .i64 0] 34)).cell? ⟨w.heap.size + 1 + 1, 7, none⟩ = some (.int .i64 0) := grownSome GZ (by simp [go_sem])
  have fc27 : (((w.alloc (.cells #[.int .i64 a, .int .i64 b] 23)).alloc (.cells #[.int .i64 c, .int .i64 d] 23)).alloc (.cells #[.int .i64 0, .int .i64 0, .int .i64 0, .int .i64 0, .int .i64 0, .int .i64 0, .int .i64 0, .int .i64 0, .int .i64 0, .int .i64 0, .int .i64 0, .int .i64 0, .int .i64 0, .int .i64 0, .int .i64 0, .int .i64 0] 34)).frozen? ⟨w.heap.size + 1 + 1, 7, none⟩ = false := (GZ.2.1 _).trans (by simp [go_sem])
  have c28 : (((w.alloc (.cells #[.int .i64 a, .int .i64 b] 23)).alloc (.cells #[.int .i64 c, .int .i64 d] 23)).alloc (.cells #[.int .i64 0, .int .i64 0, .int .i64 0, .int .i64 0, .int .i64 0, .int .i64 0, .int .i64 0, .int .i64 0, .int .i64 0, .int .i64 0, .int .i64 0, .int .i64 0, .int .i64 0, .int .i64 0, .int .i64 0, .int .i64 0] 34)).cell? ⟨w.heap.size + 1 + 1, 8, none⟩ = some (.int .i64 0) := grownSome GZ (by simp [go_sem])
  have fc28 : (((w.alloc (.cells #[.int .i64 a, .int .i64 b] 23)).alloc (.cells #[.int .i64 c, .int .i64 d] 23)).alloc (.cells #[.int .i64 0, .int .i64 0, .int .i64 0, .int .i64 0, .int .i64 0, .int .i64 0, .int .i64 0, .int .i64 0, .int .i64 0, .int .i64 0, .int .i64 0, .int .i64 0, .int .i64 0, .int .i64 0, .int .i64 0, .int .i64 0] 34)).frozen? ⟨w.heap.size + 1 + 1, 8, none⟩ = false := (GZ.2.1 _).trans (by simp [go_sem])
  have c29 : (((w.alloc (.cells #[.int .i64 a, .int .i64 b] 23)).alloc (.cells #[.int .i64 c, .int .i64 d] 23)).alloc (.cells #[.int .i64 0, .int .i64 0, .int .i64 0, .int .i64 0, .int .i64 0, .int .i64 0, .int .i64 0, .int .i64 0, .int .i64 0, .int .i64 0, .int .i64 0, .int .i64 0, .int .i64 0, .int .i64 0, .int .i64 0, .int .i64 0] 34)).cell? ⟨w.heap.size + 1 + 1, 9, none⟩ = some (.int .i64 0) := grownSome GZ (by simp [go_sem])
  have fc29 : (((w.alloc (.cells #[.int .i64 a, .int .i64 b] 23)).alloc (.cells #[.int .i64 c, .int .i64 d] 23)).alloc (.cells #[.int .i64 0, .int .i64 0, .int .i64 0, .int .i64 0, .int .i64 0, .int .i64 0, .int .i64 0, .int .i64 0, .int .i64 0, .int .i64 0, .int .i64 0, .int .i64 0, .int .i64 0, .int .i64 0, .int .i64 0, .int .i64 0] 34)).frozen? ⟨w.heap.size + 1 + 1, 9, none⟩ = false := (GZ.2.1 _).trans (by simp [go_sem])
  have c210 : (((w.alloc (.cells #[.int .i64 a, .int .i64 b] 23)).alloc (.cells #[.int .i64 c, .int .i64 d] 23)).alloc (.cells #[.int .i64 0, .int .i64 0, .int .i64 0, .int .i64 0, .int .i64 0, .int .i64 0, .int .i64 0, .int .i64 0, .int .i64 0, .int .i64 0, .int .i64 0, .int .i64 0, .int .i64 0, .int .i64 0, .int .i64 0, .int .i64 0] 34)).cell? ⟨w.heap.size + 1 + 1, 10, none⟩ = some (.int .i64 0) := grownSome GZ (by simp [go_sem])
  have fc210 : (((w.alloc (.cells #[.int .i64 a, .int .i64 b] 23)).alloc (.cells #[.int .i64 c, .int .i64 d] 23)).alloc (.cells #[.int .i64 0, .int .i64 0, .int .i64 0, .int .i64 0, .int .i64 0, .int .i64 0, .int .i64 0, .int .i64 0, .int .i64 0, .int .i64 0, .int .i64 0, .int .i64 0, .int .i64 0, .int .i64 0, .int .i64 0, .int .i64 0] 34)).frozen? ⟨w.heap.size + 1 + 1, 10, none⟩ = false := (GZ.2.1 _).trans (by simp [go_sem])
  have c211 : (((w.alloc (.cells #[.int .i64 a, .int .i64 b] 23)).alloc (.cells #[.int .i64 c, .int .i64 d] 23)).alloc (.cells #[.int .i64 0, .int .i64 0, .int .i64 0, .int .i64 0, .int .i64 0, .int .i64 0, .int .i64 0, .int .i64 0, .int .i64 0, .int .i64 0, .int .i64 0, .int .i64 0, .int .i64 0, .int .i64 0, .int .i64 0, .int .i64 0] 34)).cell? ⟨w.heap.size + 1 + 1, 11, none⟩ = some (.int .i64 0) := grownSome GZ (by simp [go_sem])
  have fc211 : (((w.alloc (.cells #[.int .i64 a, .int .i64 b] 23)).alloc (.cells #[.int .i64 c, .int .i64 d] 23)).alloc (.cells #[.int .i64 0, .int .i64 0, .int .i64 0, .int .i64 0, .int .i64 0, .int .i64 0, .int .i64 0, .int .i64 0, .int .i64 0, .int .i64 0, .int .i64 0, .int .i64 0, .int .i64 0, .int .i64 0, .int .i64 0, .int .i64 0] 34)).frozen? ⟨w.heap.size + 1 + 1, 11, none⟩ = false := (GZ.2.1 _).trans (by simp [go_sem])
  have c212 : (((w.alloc (.cells #[.int .i64 a, .int .i64 b] 23)).alloc (.cells #[.int .i64 c, .int .i64 d] 23)).alloc (.cells #[.int .i64 0, .int .i64 0, .int .i64 0, .int .i64 0, .int .i64 0, .int .i64 0, .int .i64 0, .int .i64 0, .int .i64 0, .int .i64 0, .int .i64 0, .int .i64 0, .int .i64 0, .int .i64 0, .int .i64 0, .int .i64 0] 34)).cell? ⟨w.heap.size + 1 + 1, 12, none⟩ = some (.int .i64 0) := grownSome GZ (by simp [go_sem])
  have fc212 : (((w.alloc (.cells #[.int .i64 a, .int .i64 b] 23)).alloc (.cells #[.int .i64 c, .int .i64 d] 23)).alloc (.cells #[.int .i64 0, .int .i64 0, .int .i64 0, .int .i64 0, .int .i64 0, .int .i64 0, .int .i64 0, .int .i64 0, .int .i64 0, .int .i64 0, .int .i64 0, .int .i64 0, .int .i64 0, .int .i64 0, .int .i64 0, .int .i64 0] 34)).frozen? ⟨w.heap.size + 1 + 1, 12, none⟩ = false := (GZ.2.1 _).trans (by simp [go_sem])
  have c213 : (((w.alloc (.cells #[.int .i64 a, .int .i64 b] 23)).alloc (.cells #[.int .i64 c, .int .i64 d] 23)).alloc (.cells #[.int .i64 0, .int .i64 0, .int .i64 0, .int .i64 0, .int .i64 0, .int .i64 0, .int .i64 0, .int .i64 0, .int .i64 0, .int .i64 0, .int .i64 0, .int .i64 0, .int .i64 0, .int .i64 0, .int .i64 0, .int .i64 0] 34)).cell? ⟨w.heap.size + 1 + 1, 13, none⟩ = some (.int .i64 0) := grownSome GZ (by simp [go_sem])
  have fc213 : (((w.alloc (.cells #[.int .i64 a, .int .i64 b] 23)).alloc (.cells #[.int .i64 c, .int .i64 d] 23)).alloc (.cells #[.int .i64 0, .int .i64 0, .int .i64 0, .int .i64 0, .int .i64 0, .int .i64 0, .int .i64 0, .int .i64 0, .int .i64 0, .int .i64 0, .int .i64 0, .int .i64 0, .int .i64 0, .int .i64 0, .int .i64 0, .int .i64 0] 34)).frozen? ⟨w.heap.size + 1 + 1, 13, none⟩ = false := (GZ.2.1 _).trans (by simp [go_sem])
  have c214 : (((w.alloc (.cells #[.int .i64 a, .int .i64 b] 23)).alloc (.cells #[.int .i64 c, .int .i64 d] 23)).alloc (.cells #[.int .i64 0, .int .i64 0, .int .i64 0, .int .i64 0, .int .i64 0, .int .i64 0, .int .i64 0, .int .i64 0, .int .i64 0, .int .i64 0, .int .i64 0, .int .i64 0, .int .i64 0, .int .i64 0, .int .i64 0, .int .i64 0] 34)).cell? ⟨w.heap.size + 1 + 1, 14, none⟩ = some (.int .i64 0) := grownSome GZ (by simp [go_sem])
  have fc214 : (((w.alloc (.cells #[.int .i64 a, .int .i64 b] 23)).alloc (.cells #[.int .i64 c, .int .i64 d] 23)).alloc (.cells #[.int .i64 0, .int .i64 0, .int .i64 0, .int .i64 0, .int .i64 0, .int .i64 0, .int .i64 0, .int .i64 0, .int .i64 0, .int .i64 0, .int .i64 0, .int .i64 0, .int .i64 0, .int .i64 0, .int .i64 0, .int .i64 0] 34)).frozen? ⟨w.heap.size + 1 + 1, 14, none⟩ = false := (GZ.2.1 _).trans (by simp [go_sem])
  have c215 : (((w.alloc (.cells #[.int .i64 a, .int .i64 b] 23)).alloc (.cells #[.int .i64 c, .int .i64 d] 23)).alloc (.cells #[.int .i64 0, .int .i64 0, .int .i64 0, .int .i64 0, .int .i64 0, .int .i64 0, .int .i64 0, .int .i64 0, .int .i64 0, .int .i64 0, .int .i64 0, .int .i64 0, .int .i64 0, .int .i64 0, .int .i64 0, .int .i64 0] 34)).cell? ⟨w.heap.size + 1 + 1, 15, none⟩ = some (.int .i64 0) := grownSome GZ (by simp [go_sem])
  have fc215 : (((w.alloc (.cells #[.int .i64 a, .int .i64 b] 23)).alloc (.cells #[.int .i64 c, .int .i64 d] 23)).alloc (.cells #[.int .i64 0, .int .i64 0, .int .i64 0, .int .i64 0, .int .i64 0, .int .i64 0, .int .i64 0, .int .i64 0, .int .i64 0, .int .i64 0, .int .i64 0, .int .i64 0, .int .i64 0, .int .i64 0, .int .i64 0, .int .i64 0] 34)).frozen? ⟨w.heap.size + 1 + 1, 15, none⟩ = false := (GZ.2.1 _).trans (by simp [go_sem])
  clear GZ
  have S2 : Hid (∀ (W' : World) (o : Nat) (v : Value), Grown w W' → Grown w (W'.setCell ⟨w.heap.size + 1 + 1, o, none⟩ v)) := Lib.hid (fun W' o v h => h.setCell (by show w.heap.size ≤ w.heap.size + 1 + 1; omega) v)
  have n02 : ¬ w.heap.size = w.heap.size + 1 + 1 := by omega
  have n12 : ¬ w.heap.size + 1 = w.heap.size + 1 + 1 := by omega
  have n20 : ¬ w.heap.size + 1 + 1 = w.heap.size := by omega
  have n21 : ¬ w.heap.size + 1 + 1 = w.heap.size + 1 := by omega
  generalize w.heap.size + 1 + 1 = B2 at *
  generalize w.heap.size + 1 = B1 at *
  generalize w.heap.size = B0 at *
  generalize (((w.alloc (.cells #[.int .i64 a, .int .i64 b] 23)).alloc (.cells #[.int .i64 c, .int .i64 d] 23)).alloc (.cells #[.int .i64 0, .int .i64 0, .int .i64 0, .int .i64 0, .int .i64 0, .int .i64 0, .int .i64 0, .int .i64 0, .int .i64 0, .int .i64 0, .int .i64 0, .int .i64 0, .int .i64 0, .int .i64 0, .int .i64 0, .int .i64 0] 34)) = W0 at *
  have lt2 : B2 < W0.heap.size := cellBlock c20
  go_cut [5, 6] (fun v5 v6 wx => PairsAt W0 p q r s v5 v6 wx)
  case first =>
    refine region_inv (J := fun bb aa ww => ∃ u5 u6 u7 u8 u9 u10 u11 u12 u13 u14 u15 u16 : Value, aa = ⟨#[.agg #[.int .i64 a, .int .i64 b], .agg #[.int .i64 c, .int .i64 d], .pointer (some ⟨B0, 0, none⟩), .pointer (some ⟨B1, 0, none⟩), .pointer (some ⟨B2, 0, none⟩), u5, u6, u7, u8, u9, u10, u11, u12, u13, u14, u15, u16, undef, undef, undef, undef, undef, undef, undef, undef, undef, undef, undef, undef, undef], []⟩ ∧ Grown W0 ww ∧ (bb 0 → u7 = .pointer (some ⟨B0, 0, none⟩)) ∧ (bb 1 → u8 = .int .i64 a) ∧ (bb 2 → u9 = .pointer (some ⟨B0, 1, none⟩)) ∧ (bb 3 → u10 = .int .i64 b) ∧ (bb 4 → u11 = .agg #[.int .i64 p, .int .i64 q]) ∧ (bb 5 → u12 = .pointer (some ⟨B1, 0, none⟩)) ∧ (bb 6 → u13 = .int .i64 c) ∧ (bb 7 → u14 = .pointer (some ⟨B1, 1, none⟩)) ∧ (bb 8 → u15 = .int .i64 d) ∧ (bb 9 → u16 = .agg #[.int .i64 r, .int .i64 s]) ∧ (bb 10 → VarAt W0 ww u5 (bb 12) (.int .i64 p) (.int .i64 q)) ∧ (bb 11 → VarAt W0 ww u6 (bb 13) (.int .i64 r) (.int .i64 s)) ∧ (bb 12 → bb 10) ∧ (bb 13 → bb 11) ∧ (bb 10 → bb 11 → Apart u5 u6)) (by kernel_rfl) (by kernel_rfl) ?done ?start ?steps
    case done =>
      rintro bb aa ww hb ⟨u5, u6, u7, u8, u9, u10, u11, u12, u13, u14, u15, u16, rfl, G, f0, f1, f2, f3, f4, f5, f6, f7, f8, f9, f10, f11, f12, f13, d10_11⟩
      have g0 := f0 (hb 0 (by decide))
      have g1 := f1 (hb 1 (by decide))
      have g2 := f2 (hb 2 (by decide))
      have g3 := f3 (hb 3 (by decide))
      have g4 := f4 (hb 4 (by decide))
      have g5 := f5 (hb 5 (by decide))
      have g6 := f6 (hb 6 (by decide))
      have g7 := f7 (hb 7 (by decide))
      have g8 := f8 (hb 8 (by decide))
      have g9 := f9 (hb 9 (by decide))
      have g10 := f10 (hb 10 (by decide))
      have g11 := f11 (hb 11 (by decide))
      obtain ⟨X10, x10, y10, rfl, hX10, ⟨hc10, hd10⟩, -, hs10⟩ := g10
      obtain ⟨rfl, rfl⟩ := hs10 (hb 12 (by decide))
      obtain ⟨X11, x11, y11, rfl, hX11, ⟨hc11, hd11⟩, -, hs11⟩ := g11
      obtain ⟨rfl, rfl⟩ := hs11 (hb 13 (by decide))
      go_wp2_with fail
      go_meet
      case rel => exact ⟨X10, X11, rfl, rfl, hX10, hX11, hc10, hd10, hc11, hd11, G⟩
    case start => exact ⟨_, _, _, _, _, _, _, _, _, _, _, _, rfl, Grown.drew (Grown.refl _), fun h => h.elim, fun h => h.elim, fun h => h.elim, fun h => h.elim, fun h => h.elim, fun h => h.elim, fun h => h.elim, fun h => h.elim, fun h => h.elim, fun h => h.elim, fun h => h.elim, fun h => h.elim, fun h => h.elim, fun h => h.elim, fun h => h.elim⟩
    case steps =>
      refine StepsFrom.cons (k := 0) ?_ (StepsFrom.cons (k := 1) ?_ (StepsFrom.cons (k := 2) ?_ (StepsFrom.cons (k := 3) ?_ (StepsFrom.cons (k := 4) ?_ (StepsFrom.cons (k := 5) ?_ (StepsFrom.cons (k := 6) ?_ (StepsFrom.cons (k := 7) ?_ (StepsFrom.cons (k := 8) ?_ (StepsFrom.cons (k := 9) ?_ (StepsFrom.cons (k := 10) ?_ (StepsFrom.cons (k := 11) ?_ (StepsFrom.cons (k := 12) ?_ (StepsFrom.cons (k := 13) ?_ (StepsFrom.nil))))))))))))))
      · -- 0: addr
        rintro bb aa ww hn hd ⟨u5, u6, u7, u8, u9, u10, u11, u12, u13, u14, u15, u16, rfl, G, f0, f1, f2, f3, f4, f5, f6, f7, f8, f9, f10, f11, f12, f13, d10_11⟩ K hK
        have HK := Lib.hid hK
        clear hK
        go_simp
        exact HK.out _ _ ⟨_, _, _, _, _, _, _, _, _, _, _, _, rfl, G, fun _ => rfl, up (by decide) f1, up (by decide) f2, up (by decide) f3, up (by decide) f4, up (by decide) f5, up (by decide) f6, up (by decide) f7, up (by decide) f8, up (by decide) f9, fun h => (f10 (down (by decide) h)).step (Grown.refl _) (down (by decide)), fun h => (f11 (down (by decide) h)).step (Grown.refl _) (down (by decide)), fun h => Or.inr (f12 (down (by decide) h)), fun h => Or.inr (f13 (down (by decide) h)), fun h h' => d10_11 (down (by decide) h) (down (by decide) h')⟩
      · -- 1: load
        rintro bb aa ww hn hd ⟨u5, u6, u7, u8, u9, u10, u11, u12, u13, u14, u15, u16, rfl, G, f0, f1, f2, f3, f4, f5, f6, f7, f8, f9, f10, f11, f12, f13, d10_11⟩ K hK
        have b0 : bb 0 := hd ⟨0, .data⟩ (by simp) (by rfl)
        obtain rfl := f0 b0
        have k0 := grownSome G c00
        have HK := Lib.hid hK
        clear hK
        go_simp
        exact HK.out _ _ ⟨_, _, _, _, _, _, _, _, _, _, _, _, rfl, G, fun _ => rfl, fun _ => rfl, up (by decide) f2, up (by decide) f3, up (by decide) f4, up (by decide) f5, up (by decide) f6, up (by decide) f7, up (by decide) f8, up (by decide) f9, fun h => (f10 (down (by decide) h)).step (Grown.refl _) (down (by decide)), fun h => (f11 (down (by decide) h)).step (Grown.refl _) (down (by decide)), fun h => Or.inr (f12 (down (by decide) h)), fun h => Or.inr (f13 (down (by decide) h)), fun h h' => d10_11 (down (by decide) h) (down (by decide) h')⟩
      · -- 2: addr
        rintro bb aa ww hn hd ⟨u5, u6, u7, u8, u9, u10, u11, u12, u13, u14, u15, u16, rfl, G, f0, f1, f2, f3, f4, f5, f6, f7, f8, f9, f10, f11, f12, f13, d10_11⟩ K hK
        have HK := Lib.hid hK
        clear hK
        go_simp
        exact HK.out _ _ ⟨_, _, _, _, _, _, _, _, _, _, _, _, rfl, G, up (by decide) f0, up (by decide) f1, fun _ => rfl, up (by decide) f3, up (by decide) f4, up (by decide) f5, up (by decide) f6, up (by decide) f7, up (by decide) f8, up (by decide) f9, fun h => (f10 (down (by decide) h)).step (Grown.refl _) (down (by decide)), fun h => (f11 (down (by decide) h)).step (Grown.refl _) (down (by decide)), fun h => Or.inr (f12 (down (by decide) h)), fun h => Or.inr (f13 (down (by decide) h)), fun h h' => d10_11 (down (by decide) h) (down (by decide) h')⟩
      · -- 3: load
        rintro bb aa ww hn hd ⟨u5, u6, u7, u8, u9, u10, u11, u12, u13, u14, u15, u16, rfl, G, f0, f1, f2, f3, f4, f5, f6, f7, f8, f9, f10, f11, f12, f13, d10_11⟩ K hK
        have b2 : bb 2 := hd ⟨2, .data⟩ (by simp) (by rfl)
        obtain rfl := f2 b2
        have k0 := grownSome G c01
        have HK := Lib.hid hK
        clear hK
        go_simp
        exact HK.out _ _ ⟨_, _, _, _, _, _, _, _, _, _, _, _, rfl, G, up (by decide) f0, up (by decide) f1, fun _ => rfl, fun _ => rfl, up (by decide) f4, up (by decide) f5, up (by decide) f6, up (by decide) f7, up (by decide) f8, up (by decide) f9, fun h => (f10 (down (by decide) h)).step (Grown.refl _) (down (by decide)), fun h => (f11 (down (by decide) h)).step (Grown.refl _) (down (by decide)), fun h => Or.inr (f12 (down (by decide) h)), fun h => Or.inr (f13 (down (by decide) h)), fun h h' => d10_11 (down (by decide) h) (down (by decide) h')⟩
      · -- 4: call
        rintro bb aa ww hn hd ⟨u5, u6, u7, u8, u9, u10, u11, u12, u13, u14, u15, u16, rfl, G, f0, f1, f2, f3, f4, f5, f6, f7, f8, f9, f10, f11, f12, f13, d10_11⟩ K hK
        have b1 : bb 1 := hd ⟨1, .data⟩ (by simp) (by rfl)
        obtain rfl := f1 b1
        have b3 : bb 3 := hd ⟨3, .data⟩ (by simp) (by rfl)
        obtain rfl := f3 b3
        have HK := Lib.hid hK
        clear hK
        go_wp2_with ((go_at_call_of 43 (Value.int IntKind.i64 a)); ((with_reducible refine (HO.out _).mono ?_); rintro _ w1 ⟨rfl, hg⟩))
        exact HK.out _ _ ⟨_, _, _, _, _, _, _, _, _, _, _, _, rfl, (grownTrans G hg), up (by decide) f0, fun _ => rfl, up (by decide) f2, fun _ => rfl, fun _ => rfl, up (by decide) f5, up (by decide) f6, up (by decide) f7, up (by decide) f8, up (by decide) f9, fun h => (f10 (down (by decide) h)).step hg (down (by decide)), fun h => (f11 (down (by decide) h)).step hg (down (by decide)), fun h => Or.inr (f12 (down (by decide) h)), fun h => Or.inr (f13 (down (by decide) h)), fun h h' => d10_11 (down (by decide) h) (down (by decide) h')⟩
      · -- 5: addr
        rintro bb aa ww hn hd ⟨u5, u6, u7, u8, u9, u10, u11, u12, u13, u14, u15, u16, rfl, G, f0, f1, f2, f3, f4, f5, f6, f7, f8, f9, f10, f11, f12, f13, d10_11⟩ K hK
        have HK := Lib.hid hK
        clear hK
        go_simp
        exact HK.out _ _ ⟨_, _, _, _, _, _, _, _, _, _, _, _, rfl, G, up (by decide) f0, up (by decide) f1, up (by decide) f2, up (by decide) f3, up (by decide) f4, fun _ => rfl, up (by decide) f6, up (by decide) f7, up (by decide) f8, up (by decide) f9, fun h => (f10 (down (by decide) h)).step (Grown.refl _) (down (by decide)), fun h => (f11 (down (by decide) h)).step (Grown.refl _) (down (by decide)), fun h => Or.inr (f12 (down (by decide) h)), fun h => Or.inr (f13 (down (by decide) h)), fun h h' => d10_11 (down (by decide) h) (down (by decide) h')⟩
      · -- 6: load
        rintro bb aa ww hn hd ⟨u5, u6, u7, u8, u9, u10, u11, u12, u13, u14, u15, u16, rfl, G, f0, f1, f2, f3, f4, f5, f6, f7, f8, f9, f10, f11, f12, f13, d10_11⟩ K hK
        have b5 : bb 5 := hd ⟨5, .data⟩ (by simp) (by rfl)
        obtain rfl := f5 b5
        have k0 := grownSome G c10
        have HK := Lib.hid hK
        clear hK
        go_simp
        exact HK.out _ _ ⟨_, _, _, _, _, _, _, _, _, _, _, _, rfl, G, up (by decide) f0, up (by decide) f1, up (by decide) f2, up (by decide) f3, up (by decide) f4, fun _ => rfl, fun _ => rfl, up (by decide) f7, up (by decide) f8, up (by decide) f9, fun h => (f10 (down (by decide) h)).step (Grown.refl _) (down (by decide)), fun h => (f11 (down (by decide) h)).step (Grown.refl _) (down (by decide)), fun h => Or.inr (f12 (down (by decide) h)), fun h => Or.inr (f13 (down (by decide) h)), fun h h' => d10_11 (down (by decide) h) (down (by decide) h')⟩
      · -- 7: addr
        rintro bb aa ww hn hd ⟨u5, u6, u7, u8, u9, u10, u11, u12, u13, u14, u15, u16, rfl, G, f0, f1, f2, f3, f4, f5, f6, f7, f8, f9, f10, f11, f12, f13, d10_11⟩ K hK
        have HK := Lib.hid hK
        clear hK
        go_simp
        exact HK.out _ _ ⟨_, _, _, _, _, _, _, _, _, _, _, _, rfl, G, up (by decide) f0, up (by decide) f1, up (by decide) f2, up (by decide) f3, up (by decide) f4, up (by decide) f5, up (by decide) f6, fun _ => rfl, up (by decide) f8, up (by decide) f9, fun h => (f10 (down (by decide) h)).step (Grown.refl _) (down (by decide)), fun h => (f11 (down (by decide) h)).step (Grown.refl _) (down (by decide)), fun h => Or.inr (f12 (down (by decide) h)), fun h => Or.inr (f13 (down (by decide) h)), fun h h' => d10_11 (down (by decide) h) (down (by decide) h')⟩
      · -- 8: load
        rintro bb aa ww hn hd ⟨u5, u6, u7, u8, u9, u10, u11, u12, u13, u14, u15, u16, rfl, G, f0, f1, f2, f3, f4, f5, f6, f7, f8, f9, f10, f11, f12, f13, d10_11⟩ K hK
        have b7 : bb 7 := hd ⟨7, .data⟩ (by simp) (by rfl)
        obtain rfl := f7 b7
        have k0 := grownSome G c11
        have HK := Lib.hid hK
        clear hK
        go_simp
        exact HK.out _ _ ⟨_, _, _, _, _, _, _, _, _, _, _, _, rfl, G, up (by decide) f0, up (by decide) f1, up (by decide) f2, up (by decide) f3, up (by decide) f4, up (by decide) f5, up (by decide) f6, fun _ => rfl, fun _ => rfl, up (by decide) f9, fun h => (f10 (down (by decide) h)).step (Grown.refl _) (down (by decide)), fun h => (f11 (down (by decide) h)).step (Grown.refl _) (down (by decide)), fun h => Or.inr (f12 (down (by decide) h)), fun h => Or.inr (f13 (down (by decide) h)), fun h h' => d10_11 (down (by decide) h) (down (by decide) h')⟩
      · -- 9: call
        rintro bb aa ww hn hd ⟨u5, u6, u7, u8, u9, u10, u11, u12, u13, u14, u15, u16, rfl, G, f0, f1, f2, f3, f4, f5, f6, f7, f8, f9, f10, f11, f12, f13, d10_11⟩ K hK
        have b6 : bb 6 := hd ⟨6, .data⟩ (by simp) (by rfl)
        obtain rfl := f6 b6
        have b8 : bb 8 := hd ⟨8, .data⟩ (by simp) (by rfl)
        obtain rfl := f8 b8
        have HK := Lib.hid hK
        clear hK
        go_wp2_with ((go_at_call_of 43 (Value.int IntKind.i64 c)); ((with_reducible refine (HO2.out _).mono ?_); rintro _ w1 ⟨rfl, hg⟩))
        exact HK.out _ _ ⟨_, _, _, _, _, _, _, _, _, _, _, _, rfl, (grownTrans G hg), up (by decide) f0, up (by decide) f1, up (by decide) f2, up (by decide) f3, up (by decide) f4, up (by decide) f5, fun _ => rfl, up (by decide) f7, fun _ => rfl, fun _ => rfl, fun h => (f10 (down (by decide) h)).step hg (down (by decide)), fun h => (f11 (down (by decide) h)).step hg (down (by decide)), fun h => Or.inr (f12 (down (by decide) h)), fun h => Or.inr (f13 (down (by decide) h)), fun h h' => d10_11 (down (by decide) h) (down (by decide) h')⟩
      · -- 10: alloc
        rintro bb aa ww hn hd ⟨u5, u6, u7, u8, u9, u10, u11, u12, u13, u14, u15, u16, rfl, G, f0, f1, f2, f3, f4, f5, f6, f7, f8, f9, f10, f11, f12, f13, d10_11⟩ K hK
        have HK := Lib.hid hK
        clear hK
        go_simp
        exact HK.out _ _ ⟨_, _, _, _, _, _, _, _, _, _, _, _, rfl, (Grown.alloc G _ _), up (by decide) f0, up (by decide) f1, up (by decide) f2, up (by decide) f3, up (by decide) f4, up (by decide) f5, up (by decide) f6, up (by decide) f7, up (by decide) f8, up (by decide) f9, fun _ => VarAt.new G (fun h => hn (f12 (h.resolve_left (by decide)))), fun h => (f11 (down (by decide) h)).step (Grown.alloc (Grown.refl _) _ _) (down (by decide)), fun _ => Or.inl rfl, fun h => Or.inr (f13 (down (by decide) h)), fun _ h => (f11 (down (by decide) h)).apartNew.symm⟩
      · -- 11: alloc
        rintro bb aa ww hn hd ⟨u5, u6, u7, u8, u9, u10, u11, u12, u13, u14, u15, u16, rfl, G, f0, f1, f2, f3, f4, f5, f6, f7, f8, f9, f10, f11, f12, f13, d10_11⟩ K hK
        have HK := Lib.hid hK
        clear hK
        go_simp
        exact HK.out _ _ ⟨_, _, _, _, _, _, _, _, _, _, _, _, rfl, (Grown.alloc G _ _), up (by decide) f0, up (by decide) f1, up (by decide) f2, up (by decide) f3, up (by decide) f4, up (by decide) f5, up (by decide) f6, up (by decide) f7, up (by decide) f8, up (by decide) f9, fun h => (f10 (down (by decide) h)).step (Grown.alloc (Grown.refl _) _ _) (down (by decide)), fun _ => VarAt.new G (fun h => hn (f13 (h.resolve_left (by decide)))), fun h => Or.inr (f12 (down (by decide) h)), fun _ => Or.inl rfl, fun h _ => (f10 (down (by decide) h)).apartNew⟩
      · -- 12: store
        rintro bb aa ww hn hd ⟨u5, u6, u7, u8, u9, u10, u11, u12, u13, u14, u15, u16, rfl, G, f0, f1, f2, f3, f4, f5, f6, f7, f8, f9, f10, f11, f12, f13, d10_11⟩ K hK
        have b10 : bb 10 := hd ⟨10, .data⟩ (by simp) (by rfl)
        have b4 : bb 4 := hd ⟨4, .data⟩ (by simp) (by rfl)
        obtain rfl := f4 b4
        obtain ⟨X, c0, c1, rfl, hX, ⟨hc0, hc1⟩, ⟨hf0, hf1⟩, -⟩ := f10 b10
        have HK := Lib.hid hK
        clear hK
        go_simp
        exact HK.out _ _ ⟨_, _, _, _, _, _, _, _, _, _, _, _, rfl, ((G.setCell hX _).setCell hX _), up (by decide) f0, up (by decide) f1, up (by decide) f2, up (by decide) f3, fun _ => rfl, up (by decide) f5, up (by decide) f6, up (by decide) f7, up (by decide) f8, up (by decide) f9, fun _ => VarAt.here hX hc0 hc1 hf0 hf1, fun h => (f11 (down (by decide) h)).other ((d10_11 b10 (down (by decide) h)).symm) (down (by decide)), fun _ => Or.inr b10, fun h => Or.inr (f13 (down (by decide) h)), fun h h' => d10_11 (down (by decide) h) (down (by decide) h')⟩
      · -- 13: store
        rintro bb aa ww hn hd ⟨u5, u6, u7, u8, u9, u10, u11, u12, u13, u14, u15, u16, rfl, G, f0, f1, f2, f3, f4, f5, f6, f7, f8, f9, f10, f11, f12, f13, d10_11⟩ K hK
        have b11 : bb 11 := hd ⟨11, .data⟩ (by simp) (by rfl)
        have b9 : bb 9 := hd ⟨9, .data⟩ (by simp) (by rfl)
        obtain rfl := f9 b9
        obtain ⟨X, c0, c1, rfl, hX, ⟨hc0, hc1⟩, ⟨hf0, hf1⟩, -⟩ := f11 b11
        have HK := Lib.hid hK
        clear hK
        go_simp
        exact HK.out _ _ ⟨_, _, _, _, _, _, _, _, _, _, _, _, rfl, ((G.setCell hX _).setCell hX _), up (by decide) f0, up (by decide) f1, up (by decide) f2, up (by decide) f3, up (by decide) f4, up (by decide) f5, up (by decide) f6, up (by decide) f7, up (by decide) f8, fun _ => rfl, fun h => (f10 (down (by decide) h)).other (d10_11 (down (by decide) h) b11) (down (by decide)), fun _ => VarAt.here hX hc0 hc1 hf0 hf1, fun h => Or.inr (f12 (down (by decide) h)), fun _ => Or.inr b11, fun h h' => d10_11 (down (by decide) h) (down (by decide) h')⟩
  case rest =>
    obtain ⟨X, Y, rfl, rfl, hX, hY, x0, x1, y0, y1, GX⟩ := hcut
    have k00 := grownSome GX c00
    clear c00
    have k01 := grownSome GX c01
    clear c01
    have k10 := grownSome GX c10
    clear c10
    have k11 := grownSome GX c11
    clear c11
    have k20 := grownSome GX c20
    clear c20
    have k21 := grownSome GX c21
    clear c21
    have k22 := grownSome GX c22
    clear c22
    have k23 := grownSome GX c23
    clear c23
    have k24 := grownSome GX c24
    clear c24
    have k25 := grownSome GX c25
    clear c25
    have k26 := grownSome GX c26
    clear c26
    have k27 := grownSome GX c27
    clear c27
    have k28 := grownSome GX c28
    clear c28
    have k29 := grownSome GX c29
    clear c29
    have k210 := grownSome GX c210
    clear c210
    have k211 := grownSome GX c211
    clear c211
    have k212 := grownSome GX c212
    clear c212
    have k213 := grownSome GX c213
    clear c213
    have k214 := grownSome GX c214
    clear c214
    have k215 := grownSome GX c215
    clear c215
    have z20 := (GX.2.1 _).trans fc20
    clear fc20
    have z21 := (GX.2.1 _).trans fc21
    clear fc21
    have z22 := (GX.2.1 _).trans fc22
    clear fc22
    have z23 := (GX.2.1 _).trans fc23
    clear fc23
    have z24 := (GX.2.1 _).trans fc24
    clear fc24
    have z25 := (GX.2.1 _).trans fc25
    clear fc25
    have z26 := (GX.2.1 _).trans fc26
    clear fc26
    have z27 := (GX.2.1 _).trans fc27
    clear fc27
    have z28 := (GX.2.1 _).trans fc28
    clear fc28
    have z29 := (GX.2.1 _).trans fc29
    clear fc29
    have z210 := (GX.2.1 _).trans fc210
    clear fc210
    have z211 := (GX.2.1 _).trans fc211
    clear fc211
    have z212 := (GX.2.1 _).trans fc212
    clear fc212
    have z213 := (GX.2.1 _).trans fc213
    clear fc213
    have z214 := (GX.2.1 _).trans fc214
    clear fc214
    have z215 := (GX.2.1 _).trans fc215
    clear fc215
    have G1 : Hid (Grown w wc) := Lib.hid (grownTrans GW.out GX)
    have nX : ¬ X = B2 := by omega
    have nX' : ¬ B2 = X := by omega
    have nY : ¬ Y = B2 := by omega
    have nY' : ¬ B2 = Y := by omega
    clear GX hX hY lt2
    go_wp2_with fail
    clear x0 x1 y0 y1 k00 k01 k10 k11
    exact bodyPost_ret (v := .agg #[.int .i64 a, .int .i64 b, .int .i64 c, .int .i64 d, .int .i64 p, .int .i64 q, .int .i64 r, .int .i64 s, .int .i64 a, .int .i64 b, .int .i64 r, .int .i64 s, .int .i64 p, .int .i64 q, .int .i64 p, .int .i64 q]) (by simp [results, Tryd.results15, go_sem, k20, k21, k22, k23, k24, k25, k26, k27, k28, k29, k210, k211, k212, k213, k214, k215]) rfl ⟨rfl, S2.out _ _ _ (S2.out _ _ _ (S2.out _ _ _ (S2.out _ _ _ (S2.out _ _ _ (S2.out _ _ _ (S2.out _ _ _ (S2.out _ _ _ (S2.out _ _ _ (S2.out _ _ _ (S2.out _ _ _ (S2.out _ _ _ (S2.out _ _ _ (S2.out _ _ _ (S2.out _ _ _ (S2.out _ _ _ (G1.out))))))))))))))))⟩

end Go.Proofs.YtiibpdameldblaaDoor
