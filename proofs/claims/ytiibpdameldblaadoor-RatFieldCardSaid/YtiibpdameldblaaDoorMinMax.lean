/- What Min and Max of the package rat return. -/
import Derived.Test.YtiibpdameldblaaDoorOrder
namespace Go.Proofs.YtiibpdameldblaaDoor
open Go Go.RowKit

/-- Two cells that were stored, read behind two allocations. -/
theorem read_past2 {w1 : World} {B : Nat} {u0 u1 : Value} (h0 : w1.cell? ⟨B, 0, none⟩ = some u0) (h1 : w1.cell? ⟨B, 1, none⟩ = some u1) (v0 v1 : Value) (a a' : Array Value) (t t' : TypeId) :
    ((((w1.setCell ⟨B, 0, none⟩ v0).setCell ⟨B, 1, none⟩ v1).alloc (.cells a t)).alloc (.cells a' t')).cell? ⟨B, 0, none⟩ = some v0 ∧
    ((((w1.setCell ⟨B, 0, none⟩ v0).setCell ⟨B, 1, none⟩ v1).alloc (.cells a t)).alloc (.cells a' t')).cell? ⟨B, 1, none⟩ = some v1 :=
  ⟨grownSome (Grown.alloc (Grown.alloc (Grown.refl _) _ _) _ _) (by simp [go_sem, h0]), grownSome (Grown.alloc (Grown.alloc (Grown.refl _) _ _) _ _) (by simp [go_sem, h1])⟩

set_option maxHeartbeats 1000000 in
theorem min_walk (a b c d x1 x2 x3 x4 z : Int) (w : World) (hT : Tab w) (HC : Hid (orderF a b c d = ((x1, x2), (x3, x4), z))) :
    Calls Tryd.prog 26 #[.agg #[.int .i64 a, .int .i64 b], .agg #[.int .i64 c, .int .i64 d]] w (Frac (x1, x2, z) w) := by
  have HT := Lib.hid hT
  clear hT
  go_enter Tryd.func26, Tryd.ntmps26
  go_wp2_with fail
  go_at_call 51
  refine (order_is a b c d x1 x2 x3 x4 z _ (HT.out.grown (by go_grown)) HC.out).mono ?_
  rintro e w1 ⟨rfl, hg1⟩
  have c20 : w1.cell? ⟨w.heap.size + 1 + 1, 0, none⟩ = some (.int .i64 0) := grownSome hg1 (by simp [go_sem])
  have fc20 : w1.frozen? ⟨w.heap.size + 1 + 1, 0, none⟩ = false := (hg1.2.1 _).trans (by simp [go_sem])
  have c21 : w1.cell? ⟨w.heap.size + 1 + 1, 1, none⟩ = some (.int .i64 0) := grownSome hg1 (by simp [go_sem])
  have fc21 : w1.frozen? ⟨w.heap.size + 1 + 1, 1, none⟩ = false := (hg1.2.1 _).trans (by simp [go_sem])
  have G1 : Hid (Grown w w1) := Lib.hid (grownTrans (by go_grown) hg1)
  clear hg1
  have S2 : Hid (∀ (W' : World) (o : Nat) (v : Value), Grown w W' → Grown w (W'.setCell ⟨w.heap.size + 1 + 1, o, none⟩ v)) := Lib.hid (fun W' o v h => h.setCell (by show w.heap.size ≤ w.heap.size + 1 + 1; omega) v)
  have n01 : ¬ w.heap.size = w.heap.size + 1 := by omega
  have n02 : ¬ w.heap.size = w.heap.size + 1 + 1 := by omega
  have n10 : ¬ w.heap.size + 1 = w.heap.size := by omega
  have n12 : ¬ w.heap.size + 1 = w.heap.size + 1 + 1 := by omega
  have n20 : ¬ w.heap.size + 1 + 1 = w.heap.size := by omega
  have n21 : ¬ w.heap.size + 1 + 1 = w.heap.size + 1 := by omega
  generalize w.heap.size + 1 + 1 = B2 at *
  generalize w.heap.size + 1 = B1 at *
  generalize w.heap.size = B0 at *
  have l2 : B2 < w1.heap.size := cellBlock c20
  go_wp2_with fail
  exact bodyPost_ret (v := .tuple #[.agg #[.int .i64 x1, .int .i64 x2], .int .i64 z]) (by simp [results, Tryd.results26, go_sem, (read_past2 c20 c21 _ _ _ _ _ _).1, (read_past2 c20 c21 _ _ _ _ _ _).2]) rfl ⟨rfl, Grown.alloc (Grown.alloc (S2.out _ _ _ (S2.out _ _ _ G1.out)) _ _) _ _⟩

set_option maxHeartbeats 1000000 in
theorem max_walk (a b c d x1 x2 x3 x4 z : Int) (w : World) (hT : Tab w) (HC : Hid (orderF a b c d = ((x1, x2), (x3, x4), z))) :
    Calls Tryd.prog 28 #[.agg #[.int .i64 a, .int .i64 b], .agg #[.int .i64 c, .int .i64 d]] w (Frac (x3, x4, z) w) := by
  have HT := Lib.hid hT
  clear hT
  go_enter Tryd.func28, Tryd.ntmps28
  go_wp2_with fail
  go_at_call 51
  refine (order_is a b c d x1 x2 x3 x4 z _ (HT.out.grown (by go_grown)) HC.out).mono ?_
  rintro e w1 ⟨rfl, hg1⟩
  have c20 : w1.cell? ⟨w.heap.size + 1 + 1, 0, none⟩ = some (.int .i64 0) := grownSome hg1 (by simp [go_sem])
  have fc20 : w1.frozen? ⟨w.heap.size + 1 + 1, 0, none⟩ = false := (hg1.2.1 _).trans (by simp [go_sem])
  have c21 : w1.cell? ⟨w.heap.size + 1 + 1, 1, none⟩ = some (.int .i64 0) := grownSome hg1 (by simp [go_sem])
  have fc21 : w1.frozen? ⟨w.heap.size + 1 + 1, 1, none⟩ = false := (hg1.2.1 _).trans (by simp [go_sem])
  have G1 : Hid (Grown w w1) := Lib.hid (grownTrans (by go_grown) hg1)
  clear hg1
  have S2 : Hid (∀ (W' : World) (o : Nat) (v : Value), Grown w W' → Grown w (W'.setCell ⟨w.heap.size + 1 + 1, o, none⟩ v)) := Lib.hid (fun W' o v h => h.setCell (by show w.heap.size ≤ w.heap.size + 1 + 1; omega) v)
  have n01 : ¬ w.heap.size = w.heap.size + 1 := by omega
  have n02 : ¬ w.heap.size = w.heap.size + 1 + 1 := by omega
  have n10 : ¬ w.heap.size + 1 = w.heap.size := by omega
  have n12 : ¬ w.heap.size + 1 = w.heap.size + 1 + 1 := by omega
  have n20 : ¬ w.heap.size + 1 + 1 = w.heap.size := by omega
  have n21 : ¬ w.heap.size + 1 + 1 = w.heap.size + 1 := by omega
  generalize w.heap.size + 1 + 1 = B2 at *
  generalize w.heap.size + 1 = B1 at *
  generalize w.heap.size = B0 at *
  have l2 : B2 < w1.heap.size := cellBlock c20
  go_wp2_with fail
  exact bodyPost_ret (v := .tuple #[.agg #[.int .i64 x3, .int .i64 x4], .int .i64 z]) (by simp [results, Tryd.results28, go_sem, (read_past2 c20 c21 _ _ _ _ _ _).1, (read_past2 c20 c21 _ _ _ _ _ _).2]) rfl ⟨rfl, Grown.alloc (Grown.alloc (S2.out _ _ _ (S2.out _ _ _ G1.out)) _ _) _ _⟩

theorem min_any (a b c d : Int) (w : World) (hT : Tab w) : Calls Tryd.prog 26 #[.agg #[.int .i64 a, .int .i64 b], .agg #[.int .i64 c, .int .i64 d]] w (Frac (minF a b c d) w) := by
  unfold minF
  cases h : okB a b c d with
  | false =>
    rw [if_neg (by simp)]
    exact min_walk a b c d 0 0 0 0 120 w hT (Lib.hid (orderF_no h))
  | true =>
    rw [if_pos rfl]
    have e := orderF_yes h
    by_cases h1 : cmpI a b c d = 1
    · rw [if_pos h1] at e ⊢
      exact min_walk a b c d _ _ _ _ _ w hT (Lib.hid e)
    · rw [if_neg h1] at e ⊢
      exact min_walk a b c d _ _ _ _ _ w hT (Lib.hid e)

theorem max_any (a b c d : Int) (w : World) (hT : Tab w) : Calls Tryd.prog 28 #[.agg #[.int .i64 a, .int .i64 b], .agg #[.int .i64 c, .int .i64 d]] w (Frac (maxF a b c d) w) := by
  unfold maxF
  cases h : okB a b c d with
  | false =>
    rw [if_neg (by simp)]
    exact max_walk a b c d 0 0 0 0 120 w hT (Lib.hid (orderF_no h))
  | true =>
    rw [if_pos rfl]
    have e := orderF_yes h
    by_cases h1 : cmpI a b c d = 1
    · rw [if_pos h1] at e ⊢
      exact max_walk a b c d _ _ _ _ _ w hT (Lib.hid e)
    · rw [if_neg h1] at e ⊢
      exact max_walk a b c d _ _ _ _ _ w hT (Lib.hid e)

end Go.Proofs.YtiibpdameldblaaDoor
