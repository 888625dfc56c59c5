/- What Cmp, Min, Max, Floor and Ceil of the reference return. -/
import Derived.Test.YtiibpdameldblaaDoorRefOps
import Derived.Test.YtiibpdameldblaaDoorMinMax
namespace Go.Proofs.YtiibpdameldblaaDoor
open Go Go.RowKit

theorem refcmp_no (a b c d : Int) (w : World) (HB : Hid (bothS a b c d = 120)) : Calls Tryd.prog 25 #[.agg #[.int .i64 a, .int .i64 b], .agg #[.int .i64 c, .int .i64 d]] w (Two (0, 120) w) := by
  go_enter Tryd.func25, Tryd.ntmps25
  go_wp2_with fail
  go_at_call 46
  refine (refboth_is a b c d 120 _ HB.out).mono ?_
  rintro e w1 ⟨rfl, hg1⟩
  go_wp2_with fail
  go_ret2
  exact ⟨rfl, grownTrans (by go_grown) hg1⟩

theorem refcmp_yes (a b c d P Q R r : Int) (w : World) (HB : Hid (bothS a b c d = 0)) (e1 : Hid (IntKind.i64.wrap (a * d) = P)) (e2 : Hid (IntKind.i64.wrap (c * b) = Q)) (e3 : Hid (IntKind.i64.wrap (P - Q) = R)) (hr : (R < 0 ∧ r = -1) ∨ (R = 0 ∧ r = 0) ∨ (0 < R ∧ r = 1)) :
    Calls Tryd.prog 25 #[.agg #[.int .i64 a, .int .i64 b], .agg #[.int .i64 c, .int .i64 d]] w (Two (r, 0) w) := by
  rcases hr with ⟨hlt, rfl⟩ | ⟨rfl, rfl⟩ | ⟨hlt, rfl⟩
  all_goals
    go_enter Tryd.func25, Tryd.ntmps25
    go_wp2_with fail
    go_at_call 46
    refine (refboth_is a b c d 0 _ HB.out).mono ?_
    rintro e w1 ⟨rfl, hg1⟩
    have c00 : w1.cell? ⟨w.heap.size, 0, none⟩ = some (.int .i64 a) := grownSome hg1 (by simp [go_sem])
    have c01 : w1.cell? ⟨w.heap.size, 1, none⟩ = some (.int .i64 b) := grownSome hg1 (by simp [go_sem])
    have c10 : w1.cell? ⟨w.heap.size + 1, 0, none⟩ = some (.int .i64 c) := grownSome hg1 (by simp [go_sem])
    have c11 : w1.cell? ⟨w.heap.size + 1, 1, none⟩ = some (.int .i64 d) := grownSome hg1 (by simp [go_sem])
    have K1 := e1.out
    have K2 := e2.out
    have K3 := e3.out
    go_wp2_with fail
    go_ret2
    exact ⟨rfl, grownTrans (by go_grown) hg1⟩

theorem refcmp_any (a b c d : Int) (w : World) : Calls Tryd.prog 25 #[.agg #[.int .i64 a, .int .i64 b], .agg #[.int .i64 c, .int .i64 d]] w (Two (cmpF a b c d) w) := by
  cases h : okB a b c d with
  | false =>
    rw [cmpF_no h]
    exact refcmp_no a b c d w (Lib.hid (both_of_no h))
  | true =>
    rw [cmpF_yes h]
    have hb := okB_bd h
    have HB := Lib.hid (both_of_yes h)
    have E1 := wrap_prod hb.1.1 hb.2.2
    have E2 := wrap_prod hb.2.1 hb.1.2
    have E3 := (wrap_prods hb.1.1 hb.2.2 hb.2.1 hb.1.2).2
    refine refcmp_yes a b c d _ _ _ _ w HB (Lib.hid E1) (Lib.hid E2) (Lib.hid E3) ?_
    rcases cmp_cases a b c d with ⟨h1, h2⟩ | ⟨h1, h2⟩ | ⟨h1, h2⟩
    · exact Or.inl ⟨by omega, h2⟩
    · exact Or.inr (Or.inl ⟨by omega, h2⟩)
    · exact Or.inr (Or.inr ⟨by omega, h2⟩)

theorem refcmp_is (a b c d : Int) (r : Int × Int) (w : World) (h : cmpF a b c d = r) : Calls Tryd.prog 25 #[.agg #[.int .i64 a, .int .i64 b], .agg #[.int .i64 c, .int .i64 d]] w (Two r w) := h ▸ refcmp_any a b c d w

set_option maxHeartbeats 1000000 in
theorem refmin_no (a b c d s : Int) (w : World) (HC : Hid (cmpF a b c d = (s, 120))) : Calls Tryd.prog 27 #[.agg #[.int .i64 a, .int .i64 b], .agg #[.int .i64 c, .int .i64 d]] w (Frac (0, 0, 120) w) := by
  go_enter Tryd.func27, Tryd.ntmps27
  go_wp2_with fail
  go_at_call 25
  refine (refcmp_is a b c d (s, 120) _ HC.out).mono ?_
  rintro e w1 ⟨rfl, hg1⟩
  have c00 : w1.cell? ⟨w.heap.size, 0, none⟩ = some (.int .i64 a) := grownSome hg1 (by simp [go_sem])
  have c01 : w1.cell? ⟨w.heap.size, 1, none⟩ = some (.int .i64 b) := grownSome hg1 (by simp [go_sem])
  have c10 : w1.cell? ⟨w.heap.size + 1, 0, none⟩ = some (.int .i64 c) := grownSome hg1 (by simp [go_sem])
  have c11 : w1.cell? ⟨w.heap.size + 1, 1, none⟩ = some (.int .i64 d) := grownSome hg1 (by simp [go_sem])
  have c20 : w1.cell? ⟨w.heap.size + 1 + 1, 0, none⟩ = some (.int .i64 0) := grownSome hg1 (by simp [go_sem])
  have fc20 : w1.frozen? ⟨w.heap.size + 1 + 1, 0, none⟩ = false := (hg1.2.1 _).trans (by simp [go_sem])
  have c21 : w1.cell? ⟨w.heap.size + 1 + 1, 1, none⟩ = some (.int .i64 0) := grownSome hg1 (by simp [go_sem])
  have fc21 : w1.frozen? ⟨w.heap.size + 1 + 1, 1, none⟩ = false := (hg1.2.1 _).trans (by simp [go_sem])
  have G1 : Hid (Grown w w1) := Lib.hid (grownTrans (by go_grown) hg1)
  clear hg1
  have S2 : Hid (∀ (W' : World) (o : Nat) (v : Value), Grown w W' → Grown w (W'.setCell ⟨w.heap.size + 1 + 1, o, none⟩ v)) := Lib.hid (fun W' o v h => h.setCell (by show w.heap.size ≤ w.heap.size + 1 + 1; omega) v)
  have n01 : ¬ w.heap.size = w.heap.size + 1 := by omega
  have n02 : ¬ w.heap.size = w.heap.size + 1 + 1 := by omega
  have n10 : ¬ w.heap.size + 1 = w.heap.size := by omega
  have n12 : ¬ w.heap.size + 1 = w.heap.size + 1 + 1 := by omega
  have n20 : ¬ w.heap.size + 1 + 1 = w.heap.size := by omega
  have n21 : ¬ w.heap.size + 1 + 1 = w.heap.size + 1 := by omega
  generalize w.heap.size + 1 + 1 = B2 at *
  generalize w.heap.size + 1 = B1 at *
  generalize w.heap.size = B0 at *
  go_wp2_with fail
  exact bodyPost_ret (v := .tuple #[.agg #[.int .i64 0, .int .i64 0], .int .i64 120]) (by simp [results, Tryd.results27, go_sem, c20, c21]) rfl ⟨rfl, S2.out _ _ _ (S2.out _ _ _ G1.out)⟩

set_option maxHeartbeats 1000000 in
theorem refmin_first (a b c d s : Int) (w : World) (HC : Hid (cmpF a b c d = (s, 0))) (hs : ¬ 0 < s) : Calls Tryd.prog 27 #[.agg #[.int .i64 a, .int .i64 b], .agg #[.int .i64 c, .int .i64 d]] w (Frac (a, b, 0) w) := by
  go_enter Tryd.func27, Tryd.ntmps27
  go_wp2_with fail
  go_at_call 25
  refine (refcmp_is a b c d (s, 0) _ HC.out).mono ?_
  rintro e w1 ⟨rfl, hg1⟩
  have c00 : w1.cell? ⟨w.heap.size, 0, none⟩ = some (.int .i64 a) := grownSome hg1 (by simp [go_sem])
  have c01 : w1.cell? ⟨w.heap.size, 1, none⟩ = some (.int .i64 b) := grownSome hg1 (by simp [go_sem])
  have c10 : w1.cell? ⟨w.heap.size + 1, 0, none⟩ = some (.int .i64 c) := grownSome hg1 (by simp [go_sem])
  have c11 : w1.cell? ⟨w.heap.size + 1, 1, none⟩ = some (.int .i64 d) := grownSome hg1 (by simp [go_sem])
  have c20 : w1.cell? ⟨w.heap.size + 1 + 1, 0, none⟩ = some (.int .i64 0) := grownSome hg1 (by simp [go_sem])
  have fc20 : w1.frozen? ⟨w.heap.size + 1 + 1, 0, none⟩ = false := (hg1.2.1 _).trans (by simp [go_sem])
  have c21 : w1.cell? ⟨w.heap.size + 1 + 1, 1, none⟩ = some (.int .i64 0) := grownSome hg1 (by simp [go_sem])
  have fc21 : w1.frozen? ⟨w.heap.size + 1 + 1, 1, none⟩ = false := (hg1.2.1 _).trans (by simp [go_sem])
  have G1 : Hid (Grown w w1) := Lib.hid (grownTrans (by go_grown) hg1)
  clear hg1
  have S2 : Hid (∀ (W' : World) (o : Nat) (v : Value), Grown w W' → Grown w (W'.setCell ⟨w.heap.size + 1 + 1, o, none⟩ v)) := Lib.hid (fun W' o v h => h.setCell (by show w.heap.size ≤ w.heap.size + 1 + 1; omega) v)
  have n01 : ¬ w.heap.size = w.heap.size + 1 := by omega
  have n02 : ¬ w.heap.size = w.heap.size + 1 + 1 := by omega
  have n10 : ¬ w.heap.size + 1 = w.heap.size := by omega
  have n12 : ¬ w.heap.size + 1 = w.heap.size + 1 + 1 := by omega
  have n20 : ¬ w.heap.size + 1 + 1 = w.heap.size := by omega
  have n21 : ¬ w.heap.size + 1 + 1 = w.heap.size + 1 := by omega
  generalize w.heap.size + 1 + 1 = B2 at *
  generalize w.heap.size + 1 = B1 at *
  generalize w.heap.size = B0 at *
  go_wp2_with fail
  exact bodyPost_ret (v := .tuple #[.agg #[.int .i64 a, .int .i64 b], .int .i64 0]) (by simp [results, Tryd.results27, go_sem, c20, c21]) rfl ⟨rfl, S2.out _ _ _ (S2.out _ _ _ G1.out)⟩

set_option maxHeartbeats 1000000 in
theorem refmin_second (a b c d s : Int) (w : World) (HC : Hid (cmpF a b c d = (s, 0))) (hs : 0 < s) : Calls Tryd.prog 27 #[.agg #[.int .i64 a, .int .i64 b], .agg #[.int .i64 c, .int .i64 d]] w (Frac (c, d, 0) w) := by
  go_enter Tryd.func27, Tryd.ntmps27
  go_wp2_with fail
  go_at_call 25
  refine (refcmp_is a b c d (s, 0) _ HC.out).mono ?_
  rintro e w1 ⟨rfl, hg1⟩
  have c00 : w1.cell? ⟨w.heap.size, 0, none⟩ = some (.int .i64 a) := grownSome hg1 (by simp [go_sem])
  have c01 : w1.cell? ⟨w.heap.size, 1, none⟩ = some (.int .i64 b) := grownSome hg1 (by simp [go_sem])
  have c10 : w1.cell? ⟨w.heap.size + 1, 0, none⟩ = some (.int .i64 c) := grownSome hg1 (by simp [go_sem])
  have c11 : w1.cell? ⟨w.heap.size + 1, 1, none⟩ = some (.int .i64 d) := grownSome hg1 (by simp [go_sem])
  have c20 : w1.cell? ⟨w.heap.size + 1 + 1, 0, none⟩ = some (.int .i64 0) := grownSome hg1 (by simp [go_sem])
  have fc20 : w1.frozen? ⟨w.heap.size + 1 + 1, 0, none⟩ = false := (hg1.2.1 _).trans (by simp [go_sem])
  have c21 : w1.cell? ⟨w.heap.size + 1 + 1, 1, none⟩ = some (.int .i64 0) := grownSome hg1 (by simp [go_sem])
  have fc21 : w1.frozen? ⟨w.heap.size + 1 + 1, 1, none⟩ = false := (hg1.2.1 _).trans (by simp [go_sem])
  have G1 : Hid (Grown w w1) := Lib.hid (grownTrans (by go_grown) hg1)
  clear hg1
  have S2 : Hid (∀ (W' : World) (o : Nat) (v : Value), Grown w W' → Grown w (W'.setCell ⟨w.heap.size + 1 + 1, o, none⟩ v)) := Lib.hid (fun W' o v h => h.setCell (by show w.heap.size ≤ w.heap.size + 1 + 1; omega) v)
  have n01 : ¬ w.heap.size = w.heap.size + 1 := by omega
  have n02 : ¬ w.heap.size = w.heap.size + 1 + 1 := by omega
  have n10 : ¬ w.heap.size + 1 = w.heap.size := by omega
  have n12 : ¬ w.heap.size + 1 = w.heap.size + 1 + 1 := by omega
  have n20 : ¬ w.heap.size + 1 + 1 = w.heap.size := by omega
  have n21 : ¬ w.heap.size + 1 + 1 = w.heap.size + 1 := by omega
  generalize w.heap.size + 1 + 1 = B2 at *
  generalize w.heap.size + 1 = B1 at *
  generalize w.heap.size = B0 at *
  go_wp2_with fail
  exact bodyPost_ret (v := .tuple #[.agg #[.int .i64 c, .int .i64 d], .int .i64 0]) (by simp [results, Tryd.results27, go_sem, c20, c21]) rfl ⟨rfl, S2.out _ _ _ (S2.out _ _ _ G1.out)⟩

theorem refmin_any (a b c d : Int) (w : World) : Calls Tryd.prog 27 #[.agg #[.int .i64 a, .int .i64 b], .agg #[.int .i64 c, .int .i64 d]] w (Frac (minF a b c d) w) := by
  unfold minF
  cases h : okB a b c d with
  | false =>
    rw [if_neg (by simp)]
    exact refmin_no a b c d 0 w (Lib.hid (cmpF_no h))
  | true =>
    rw [if_pos rfl]
    have e := cmpF_yes h
    rcases cmp_cases a b c d with ⟨h1, h2⟩ | ⟨h1, h2⟩ | ⟨h1, h2⟩
    · rw [if_neg (by omega)]
      exact refmin_first a b c d _ w (Lib.hid e) (by omega)
    · rw [if_neg (by omega)]
      exact refmin_first a b c d _ w (Lib.hid e) (by omega)
    · rw [if_pos h2]
      exact refmin_second a b c d _ w (Lib.hid e) (by omega)

set_option maxHeartbeats 1000000 in
theorem refmax_no (a b c d s : Int) (w : World) (HC : Hid (cmpF a b c d = (s, 120))) : Calls Tryd.prog 29 #[.agg #[.int .i64 a, .int .i64 b], .agg #[.int .i64 c, .int .i64 d]] w (Frac (0, 0, 120) w) := by
  go_enter Tryd.func29, Tryd.ntmps29
  go_wp2_with fail
  go_at_call 25
  refine (refcmp_is a b c d (s, 120) _ HC.out).mono ?_
  rintro e w1 ⟨rfl, hg1⟩
  have c00 : w1.cell? ⟨w.heap.size, 0, none⟩ = some (.int .i64 a) := grownSome hg1 (by simp [go_sem])
  have c01 : w1.cell? ⟨w.heap.size, 1, none⟩ = some (.int .i64 b) := grownSome hg1 (by simp [go_sem])
  have c10 : w1.cell? ⟨w.heap.size + 1, 0, none⟩ = some (.int .i64 c) := grownSome hg1 (by simp [go_sem])
  have c11 : w1.cell? ⟨w.heap.size + 1, 1, none⟩ = some (.int .i64 d) := grownSome hg1 (by simp [go_sem])
  have c20 : w1.cell? ⟨w.heap.size + 1 + 1, 0, none⟩ = some (.int .i64 0) := grownSome hg1 (by simp [go_sem])
  have fc20 : w1.frozen? ⟨w.heap.size + 1 + 1, 0, none⟩ = false := (hg1.2.1 _).trans (by simp [go_sem])
  have c21 : w1.cell? ⟨w.heap.size + 1 + 1, 1, none⟩ = some (.int .i64 0) := grownSome hg1 (by simp [go_sem])
  have fc21 : w1.frozen? ⟨w.heap.size + 1 + 1, 1, none⟩ = false := (hg1.2.1 _).trans (by simp [go_sem])
  have G1 : Hid (Grown w w1) := Lib.hid (grownTrans (by go_grown) hg1)
  clear hg1
  have S2 : Hid (∀ (W' : World) (o : Nat) (v : Value), Grown w W' → Grown w (W'.setCell ⟨w.heap.size + 1 + 1, o, none⟩ v)) := Lib.hid (fun W' o v h => h.setCell (by show w.heap.size ≤ w.heap.size + 1 + 1; omega) v)
  have n01 : ¬ w.heap.size = w.heap.size + 1 := by omega
  have n02 : ¬ w.heap.size = w.heap.size + 1 + 1 := by omega
  have n10 : ¬ w.heap.size + 1 = w.heap.size := by omega
  have n12 : ¬ w.heap.size + 1 = w.heap.size + 1 + 1 := by omega
  have n20 : ¬ w.heap.size + 1 + 1 = w.heap.size := by omega
  have n21 : ¬ w.heap.size + 1 + 1 = w.heap.size + 1 := by omega
  generalize w.heap.size + 1 + 1 = B2 at *
  generalize w.heap.size + 1 = B1 at *
  generalize w.heap.size = B0 at *
  go_wp2_with fail
  exact bodyPost_ret (v := .tuple #[.agg #[.int .i64 0, .int .i64 0], .int .i64 120]) (by simp [results, Tryd.results29, go_sem, c20, c21]) rfl ⟨rfl, S2.out _ _ _ (S2.out _ _ _ G1.out)⟩

set_option maxHeartbeats 1000000 in
theorem refmax_first (a b c d s : Int) (w : World) (HC : Hid (cmpF a b c d = (s, 0))) (hs : ¬ s < 0) : Calls Tryd.prog 29 #[.agg #[.int .i64 a, .int .i64 b], .agg #[.int .i64 c, .int .i64 d]] w (Frac (a, b, 0) w) := by
  go_enter Tryd.func29, Tryd.ntmps29
  go_wp2_with fail
  go_at_call 25
  refine (refcmp_is a b c d (s, 0) _ HC.out).mono ?_
  rintro e w1 ⟨rfl, hg1⟩
  have c00 : w1.cell? ⟨w.heap.size, 0, none⟩ = some (.int .i64 a) := grownSome hg1 (by simp [go_sem])
  have c01 : w1.cell? ⟨w.heap.size, 1, none⟩ = some (.int .i64 b) := grownSome hg1 (by simp [go_sem])
  have c10 : w1.cell? ⟨w.heap.size + 1, 0, none⟩ = some (.int .i64 c) := grownSome hg1 (by simp [go_sem])
  have c11 : w1.cell? ⟨w.heap.size + 1, 1, none⟩ = some (.int .i64 d) := grownSome hg1 (by simp [go_sem])
  have c20 : w1.cell? ⟨w.heap.size + 1 + 1, 0, none⟩ = some (.int .i64 0) := grownSome hg1 (by simp [go_sem])
  have fc20 : w1.frozen? ⟨w.heap.size + 1 + 1, 0, none⟩ = false := (hg1.2.1 _).trans (by simp [go_sem])
  have c21 : w1.cell? ⟨w.heap.size + 1 + 1, 1, none⟩ = some (.int .i64 0) := grownSome hg1 (by simp [go_sem])
  have fc21 : w1.frozen? ⟨w.heap.size + 1 + 1, 1, none⟩ = false := (hg1.2.1 _).trans (by simp [go_sem])
  have G1 : Hid (Grown w w1) := Lib.hid (grownTrans (by go_grown) hg1)
  clear hg1
  have S2 : Hid (∀ (W' : World) (o : Nat) (v : Value), Grown w W' → Grown w (W'.setCell ⟨w.heap.size + 1 + 1, o, none⟩ v)) := Lib.hid (fun W' o v h => h.setCell (by show w.heap.size ≤ w.heap.size + 1 + 1; omega) v)
  have n01 : ¬ w.heap.size = w.heap.size + 1 := by omega
  have n02 : ¬ w.heap.size = w.heap.size + 1 + 1 := by omega
  have n10 : ¬ w.heap.size + 1 = w.heap.size := by omega
  have n12 : ¬ w.heap.size + 1 = w.heap.size + 1 + 1 := by omega
  have n20 : ¬ w.heap.size + 1 + 1 = w.heap.size := by omega
  have n21 : ¬ w.heap.size + 1 + 1 = w.heap.size + 1 := by omega
  generalize w.heap.size + 1 + 1 = B2 at *
  generalize w.heap.size + 1 = B1 at *
  generalize w.heap.size = B0 at *
  go_wp2_with fail
  exact bodyPost_ret (v := .tuple #[.agg #[.int .i64 a, .int .i64 b], .int .i64 0]) (by simp [results, Tryd.results29, go_sem, c20, c21]) rfl ⟨rfl, S2.out _ _ _ (S2.out _ _ _ G1.out)⟩

set_option maxHeartbeats 1000000 in
theorem refmax_second (a b c d s : Int) (w : World) (HC : Hid (cmpF a b c d = (s, 0))) (hs : s < 0) : Calls Tryd.prog 29 #[.agg #[.int .i64 a, .int .i64 b], .agg #[.int .i64 c, .int .i64 d]] w (Frac (c, d, 0) w) := by
  go_enter Tryd.func29, Tryd.ntmps29
  go_wp2_with fail
  go_at_call 25
  refine (refcmp_is a b c d (s, 0) _ HC.out).mono ?_
  rintro e w1 ⟨rfl, hg1⟩
  have c00 : w1.cell? ⟨w.heap.size, 0, none⟩ = some (.int .i64 a) := grownSome hg1 (by simp [go_sem])
  have c01 : w1.cell? ⟨w.heap.size, 1, none⟩ = some (.int .i64 b) := grownSome hg1 (by simp [go_sem])
  have c10 : w1.cell? ⟨w.heap.size + 1, 0, none⟩ = some (.int .i64 c) := grownSome hg1 (by simp [go_sem])
  have c11 : w1.cell? ⟨w.heap.size + 1, 1, none⟩ = some (.int .i64 d) := grownSome hg1 (by simp [go_sem])
  have c20 : w1.cell? ⟨w.heap.size + 1 + 1, 0, none⟩ = some (.int .i64 0) := grownSome hg1 (by simp [go_sem])
  have fc20 : w1.frozen? ⟨w.heap.size + 1 + 1, 0, none⟩ = false := (hg1.2.1 _).trans (by simp [go_sem])
  have c21 : w1.cell? ⟨w.heap.size + 1 + 1, 1, none⟩ = some (.int .i64 0) := grownSome hg1 (by simp [go_sem])
  have fc21 : w1.frozen? ⟨w.heap.size + 1 + 1, 1, none⟩ = false := (hg1.2.1 _).trans (by simp [go_sem])
  have G1 : Hid (Grown w w1) := Lib.hid (grownTrans (by go_grown) hg1)
  clear hg1
  have S2 : Hid (∀ (W' : World) (o : Nat) (v : Value), Grown w W' → Grown w (W'.setCell ⟨w.heap.size + 1 + 1, o, none⟩ v)) := Lib.hid (fun W' o v h => h.setCell (by show w.heap.size ≤ w.heap.size + 1 + 1; omega) v)
  have n01 : ¬ w.heap.size = w.heap.size + 1 := by omega
  have n02 : ¬ w.heap.size = w.heap.size + 1 + 1 := by omega
  have n10 : ¬ w.heap.size + 1 = w.heap.size := by omega
  have n12 : ¬ w.heap.size + 1 = w.heap.size + 1 + 1 := by omega
  have n20 : ¬ w.heap.size + 1 + 1 = w.heap.size := by omega
  have n21 : ¬ w.heap.size + 1 + 1 = w.heap.size + 1 := by omega
  generalize w.heap.size + 1 + 1 = B2 at *
  generalize w.heap.size + 1 = B1 at *
  generalize w.heap.size = B0 at *
  go_wp2_with fail
  exact bodyPost_ret (v := .tuple #[.agg #[.int .i64 c, .int .i64 d], .int .i64 0]) (by simp [results, Tryd.results29, go_sem, c20, c21]) rfl ⟨rfl, S2.out _ _ _ (S2.out _ _ _ G1.out)⟩

theorem refmax_any (a b c d : Int) (w : World) : Calls Tryd.prog 29 #[.agg #[.int .i64 a, .int .i64 b], .agg #[.int .i64 c, .int .i64 d]] w (Frac (maxF a b c d) w) := by
  unfold maxF
  cases h : okB a b c d with
  | false =>
    rw [if_neg (by simp)]
    exact refmax_no a b c d 0 w (Lib.hid (cmpF_no h))
  | true =>
    rw [if_pos rfl]
    have e := cmpF_yes h
    rcases cmp_cases a b c d with ⟨h1, h2⟩ | ⟨h1, h2⟩ | ⟨h1, h2⟩
    · rw [if_neg (by omega)]
      exact refmax_second a b c d _ w (Lib.hid e) (by omega)
    · rw [if_neg (by omega)]
      obtain ⟨rfl, rfl⟩ := cross_eq (okB_and h).1 (okB_and h).2 h1
      exact refmax_first a b a b _ w (Lib.hid e) (by omega)
    · rw [if_pos h2]
      exact refmax_first a b c d _ w (Lib.hid e) (by omega)

end Go.Proofs.YtiibpdameldblaaDoor
