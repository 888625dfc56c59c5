/- What Add, Sub, Mul and Div of the reference return, for all fractions. -/
import Derived.Test.YtiibpdameldblaaDoorOps
import Derived.Test.YtiibpdameldblaaDoorRefMake
namespace Go.Proofs.YtiibpdameldblaaDoor
open Go Go.RowKit

theorem refboth_is (a b c d s : Int) (w : World) (h : bothS a b c d = s) : Calls Tryd.prog 46 #[.agg #[.int .i64 a, .int .i64 b], .agg #[.int .i64 c, .int .i64 d]] w (Num s w) := h ▸ refboth_any a b c d w

set_option maxHeartbeats 1000000 in
theorem refadd_any (a b c d : Int) (w : World) : Calls Tryd.prog 17 #[.agg #[.int .i64 a, .int .i64 b], .agg #[.int .i64 c, .int .i64 d]] w (Frac (addF a b c d) w) := by
  unfold addF
  cases h : okB a b c d with
  | false =>
    have HB := Lib.hid (both_of_no h)
    rw [← h, over_no _ _ h]
    clear h
    go_enter Tryd.func17, Tryd.ntmps17
    go_wp2_with fail
    go_at_call 46
    refine (refboth_is a b c d 120 _ HB.out).mono ?_
    rintro e w1 ⟨rfl, hg1⟩
    have c0 : w1.cell? ⟨w.heap.size, 0, none⟩ = some (.int .i64 a) := grownSome hg1 (by simp [go_sem])
    have c1 : w1.cell? ⟨w.heap.size, 1, none⟩ = some (.int .i64 b) := grownSome hg1 (by simp [go_sem])
    have c2 : w1.cell? ⟨w.heap.size + 1, 0, none⟩ = some (.int .i64 c) := grownSome hg1 (by simp [go_sem])
    have c3 : w1.cell? ⟨w.heap.size + 1, 1, none⟩ = some (.int .i64 d) := grownSome hg1 (by simp [go_sem])
    have k0 : w1.cell? ⟨w.heap.size + 2, 0, none⟩ = some (.int .i64 0) := grownSome hg1 (by simp [go_sem])
    have k1 : w1.cell? ⟨w.heap.size + 2, 1, none⟩ = some (.int .i64 0) := grownSome hg1 (by simp [go_sem])
    have f0 : w1.frozen? ⟨w.heap.size + 2, 0, none⟩ = false := (hg1.2.1 _).trans (by simp [go_sem])
    have f1 : w1.frozen? ⟨w.heap.size + 2, 1, none⟩ = false := (hg1.2.1 _).trans (by simp [go_sem])
    have G1 : Hid (Grown w w1) := Lib.hid (grownTrans (by go_grown) hg1)
    clear hg1
    go_wp2_with fail
    exact bodyPost_ret (v := .tuple #[.agg #[.int .i64 0, .int .i64 0], .int .i64 120]) (by simp [results, Tryd.results17, go_sem, k0, k1]) rfl ⟨rfl, (G1.out.setCell (by show w.heap.size ≤ w.heap.size + 2; omega) _).setCell (by show w.heap.size ≤ w.heap.size + 2; omega) _⟩
  | true =>
    have HB := Lib.hid (both_of_yes h)
    have hb := okB_bd h
    rw [← h, over_yes _ _ h]
    clear h
    obtain ⟨P, e1⟩ : ∃ P, IntKind.i64.wrap (a * d) = P := ⟨_, rfl⟩
    obtain ⟨Q, e2⟩ : ∃ Q, IntKind.i64.wrap (c * b) = Q := ⟨_, rfl⟩
    have hn := (wrap_prods hb.1.1 hb.2.2 hb.2.1 hb.1.2).1
    rw [show a * d = P by rw [← e1]; exact (wrap_prod hb.1.1 hb.2.2).symm, show c * b = Q by rw [← e2]; exact (wrap_prod hb.2.1 hb.1.2).symm] at hn
    have hN : a * d + c * b = P + Q := by rw [← e1, ← e2, wrap_prod hb.1.1 hb.2.2, wrap_prod hb.2.1 hb.1.2]
    obtain ⟨D, e4⟩ : ∃ D, IntKind.i64.wrap (b * d) = D := ⟨_, rfl⟩
    have hD : b * d = D := by rw [← e4, wrap_prod hb.1.2 hb.2.2]
    rw [hN, hD]
    obtain ⟨N, hN'⟩ : ∃ N, P + Q = N := ⟨_, rfl⟩
    rw [hN'] at hn ⊢
    have e3 : IntKind.i64.wrap (P + Q) = N := by rw [hN']; exact hn
    have E1 := Lib.hid e1
    have E2 := Lib.hid e2
    have E3 := Lib.hid e3
    have E4 := Lib.hid e4
    clear hN' hN hn hD e1 e2 e3 e4
    clear hb
    obtain ⟨⟨rn, rd, re⟩, hr⟩ : ∃ r, makeS N D = r := ⟨_, rfl⟩
    have HM := Lib.hid hr
    rw [hr]
    clear hr
    go_enter Tryd.func17, Tryd.ntmps17
    go_wp2_with fail
    go_at_call 46
    refine (refboth_is a b c d 0 _ HB.out).mono ?_
    rintro e w1 ⟨rfl, hg1⟩
    have c0 : w1.cell? ⟨w.heap.size, 0, none⟩ = some (.int .i64 a) := grownSome hg1 (by simp [go_sem])
    have c1 : w1.cell? ⟨w.heap.size, 1, none⟩ = some (.int .i64 b) := grownSome hg1 (by simp [go_sem])
    have c2 : w1.cell? ⟨w.heap.size + 1, 0, none⟩ = some (.int .i64 c) := grownSome hg1 (by simp [go_sem])
    have c3 : w1.cell? ⟨w.heap.size + 1, 1, none⟩ = some (.int .i64 d) := grownSome hg1 (by simp [go_sem])
    have k0 : w1.cell? ⟨w.heap.size + 2, 0, none⟩ = some (.int .i64 0) := grownSome hg1 (by simp [go_sem])
    have k1 : w1.cell? ⟨w.heap.size + 2, 1, none⟩ = some (.int .i64 0) := grownSome hg1 (by simp [go_sem])
    have f0 : w1.frozen? ⟨w.heap.size + 2, 0, none⟩ = false := (hg1.2.1 _).trans (by simp [go_sem])
    have f1 : w1.frozen? ⟨w.heap.size + 2, 1, none⟩ = false := (hg1.2.1 _).trans (by simp [go_sem])
    have G1 : Hid (Grown w w1) := Lib.hid (grownTrans (by go_grown) hg1)
    clear hg1
    have e1 := E1.out
    have e2 := E2.out
    have e3 := E3.out
    have e4 := E4.out
    go_wp2_with fail
    go_at_call 11
    refine (refmake_is N D (rn, rd, re) HM.out _).mono ?_
    rintro e w2 ⟨rfl, hg2⟩
    have m0 : w2.cell? ⟨w.heap.size + 2, 0, none⟩ = some (.int .i64 0) := grownSome hg2 k0
    have m1 : w2.cell? ⟨w.heap.size + 2, 1, none⟩ = some (.int .i64 0) := grownSome hg2 k1
    have g0 : w2.frozen? ⟨w.heap.size + 2, 0, none⟩ = false := (hg2.2.1 _).trans f0
    have g1 : w2.frozen? ⟨w.heap.size + 2, 1, none⟩ = false := (hg2.2.1 _).trans f1
    have G2 : Hid (Grown w w2) := Lib.hid (grownTrans G1.out hg2)
    clear hg2
    go_wp2_with fail
    exact bodyPost_ret (v := .tuple #[.agg #[.int .i64 rn, .int .i64 rd], .int .i64 re]) (by simp [results, Tryd.results17, go_sem, m0, m1]) rfl ⟨rfl, (G2.out.setCell (by show w.heap.size ≤ w.heap.size + 2; omega) _).setCell (by show w.heap.size ≤ w.heap.size + 2; omega) _⟩

set_option maxHeartbeats 1000000 in
theorem refsub_any (a b c d : Int) (w : World) : Calls Tryd.prog 19 #[.agg #[.int .i64 a, .int .i64 b], .agg #[.int .i64 c, .int .i64 d]] w (Frac (subF a b c d) w) := by
  unfold subF
  cases h : okB a b c d with
  | false =>
    have HB := Lib.hid (both_of_no h)
    rw [← h, over_no _ _ h]
    clear h
    go_enter Tryd.func19, Tryd.ntmps19
    go_wp2_with fail
    go_at_call 46
    refine (refboth_is a b c d 120 _ HB.out).mono ?_
    rintro e w1 ⟨rfl, hg1⟩
    have c0 : w1.cell? ⟨w.heap.size, 0, none⟩ = some (.int .i64 a) := grownSome hg1 (by simp [go_sem])
    have c1 : w1.cell? ⟨w.heap.size, 1, none⟩ = some (.int .i64 b) := grownSome hg1 (by simp [go_sem])
    have c2 : w1.cell? ⟨w.heap.size + 1, 0, none⟩ = some (.int .i64 c) := grownSome hg1 (by simp [go_sem])
    have c3 : w1.cell? ⟨w.heap.size + 1, 1, none⟩ = some (.int .i64 d) := grownSome hg1 (by simp [go_sem])
    have k0 : w1.cell? ⟨w.heap.size + 2, 0, none⟩ = some (.int .i64 0) := grownSome hg1 (by simp [go_sem])
    have k1 : w1.cell? ⟨w.heap.size + 2, 1, none⟩ = some (.int .i64 0) := grownSome hg1 (by simp [go_sem])
    have f0 : w1.frozen? ⟨w.heap.size + 2, 0, none⟩ = false := (hg1.2.1 _).trans (by simp [go_sem])
    have f1 : w1.frozen? ⟨w.heap.size + 2, 1, none⟩ = false := (hg1.2.1 _).trans (by simp [go_sem])
    have G1 : Hid (Grown w w1) := Lib.hid (grownTrans (by go_grown) hg1)
    clear hg1
    go_wp2_with fail
    exact bodyPost_ret (v := .tuple #[.agg #[.int .i64 0, .int .i64 0], .int .i64 120]) (by simp [results, Tryd.results19, go_sem, k0, k1]) rfl ⟨rfl, (G1.out.setCell (by show w.heap.size ≤ w.heap.size + 2; omega) _).setCell (by show w.heap.size ≤ w.heap.size + 2; omega) _⟩
  | true =>
    have HB := Lib.hid (both_of_yes h)
    have hb := okB_bd h
    rw [← h, over_yes _ _ h]
    clear h
    obtain ⟨P, e1⟩ : ∃ P, IntKind.i64.wrap (a * d) = P := ⟨_, rfl⟩
    obtain ⟨Q, e2⟩ : ∃ Q, IntKind.i64.wrap (c * b) = Q := ⟨_, rfl⟩
    have hn := (wrap_prods hb.1.1 hb.2.2 hb.2.1 hb.1.2).2
    rw [show a * d = P by rw [← e1]; exact (wrap_prod hb.1.1 hb.2.2).symm, show c * b = Q by rw [← e2]; exact (wrap_prod hb.2.1 hb.1.2).symm] at hn
    have hN : a * d - c * b = P - Q := by rw [← e1, ← e2, wrap_prod hb.1.1 hb.2.2, wrap_prod hb.2.1 hb.1.2]
    obtain ⟨D, e4⟩ : ∃ D, IntKind.i64.wrap (b * d) = D := ⟨_, rfl⟩
    have hD : b * d = D := by rw [← e4, wrap_prod hb.1.2 hb.2.2]
    rw [hN, hD]
    obtain ⟨N, hN'⟩ : ∃ N, P - Q = N := ⟨_, rfl⟩
    rw [hN'] at hn ⊢
    have e3 : IntKind.i64.wrap (P - Q) = N := by rw [hN']; exact hn
    have E1 := Lib.hid e1
    have E2 := Lib.hid e2
    have E3 := Lib.hid e3
    have E4 := Lib.hid e4
    clear hN' hN hn hD e1 e2 e3 e4
    clear hb
    obtain ⟨⟨rn, rd, re⟩, hr⟩ : ∃ r, makeS N D = r := ⟨_, rfl⟩
    have HM := Lib.hid hr
    rw [hr]
    clear hr
    go_enter Tryd.func19, Tryd.ntmps19
    go_wp2_with fail
    go_at_call 46
    refine (refboth_is a b c d 0 _ HB.out).mono ?_
    rintro e w1 ⟨rfl, hg1⟩
    have c0 : w1.cell? ⟨w.heap.size, 0, none⟩ = some (.int .i64 a) := grownSome hg1 (by simp [go_sem])
    have c1 : w1.cell? ⟨w.heap.size, 1, none⟩ = some (.int .i64 b) := grownSome hg1 (by simp [go_sem])
    have c2 : w1.cell? ⟨w.heap.size + 1, 0, none⟩ = some (.int .i64 c) := grownSome hg1 (by simp [go_sem])
    have c3 : w1.cell? ⟨w.heap.size + 1, 1, none⟩ = some (.int .i64 d) := grownSome hg1 (by simp [go_sem])
    have k0 : w1.cell? ⟨w.heap.size + 2, 0, none⟩ = some (.int .i64 0) := grownSome hg1 (by simp [go_sem])
    have k1 : w1.cell? ⟨w.heap.size + 2, 1, none⟩ = some (.int .i64 0) := grownSome hg1 (by simp [go_sem])
    have f0 : w1.frozen? ⟨w.heap.size + 2, 0, none⟩ = false := (hg1.2.1 _).trans (by simp [go_sem])
    have f1 : w1.frozen? ⟨w.heap.size + 2, 1, none⟩ = false := (hg1.2.1 _).trans (by simp [go_sem])
    have G1 : Hid (Grown w w1) := Lib.hid (grownTrans (by go_grown) hg1)
    clear hg1
    have e1 := E1.out
    have e2 := E2.out
    have e3 := E3.out
    have e4 := E4.out
    go_wp2_with fail
    go_at_call 11
    refine (refmake_is N D (rn, rd, re) HM.out _).mono ?_
    rintro e w2 ⟨rfl, hg2⟩
    have m0 : w2.cell? ⟨w.heap.size + 2, 0, none⟩ = some (.int .i64 0) := grownSome hg2 k0
    have m1 : w2.cell? ⟨w.heap.size + 2, 1, none⟩ = some (.int .i64 0) := grownSome hg2 k1
    have g0 : w2.frozen? ⟨w.heap.size + 2, 0, none⟩ = false := (hg2.2.1 _).trans f0
    have g1 : w2.frozen? ⟨w.heap.size + 2, 1, none⟩ = false := (hg2.2.1 _).trans f1
    have G2 : Hid (Grown w w2) := Lib.hid (grownTrans G1.out hg2)
    clear hg2
    go_wp2_with fail
    exact bodyPost_ret (v := .tuple #[.agg #[.int .i64 rn, .int .i64 rd], .int .i64 re]) (by simp [results, Tryd.results19, go_sem, m0, m1]) rfl ⟨rfl, (G2.out.setCell (by show w.heap.size ≤ w.heap.size + 2; omega) _).setCell (by show w.heap.size ≤ w.heap.size + 2; omega) _⟩

set_option maxHeartbeats 1000000 in
theorem refmul_any (a b c d : Int) (w : World) : Calls Tryd.prog 21 #[.agg #[.int .i64 a, .int .i64 b], .agg #[.int .i64 c, .int .i64 d]] w (Frac (mulF a b c d) w) := by
  unfold mulF
  cases h : okB a b c d with
  | false =>
    have HB := Lib.hid (both_of_no h)
    rw [← h, over_no _ _ h]
    clear h
    go_enter Tryd.func21, Tryd.ntmps21
    go_wp2_with fail
    go_at_call 46
    refine (refboth_is a b c d 120 _ HB.out).mono ?_
    rintro e w1 ⟨rfl, hg1⟩
    have c0 : w1.cell? ⟨w.heap.size, 0, none⟩ = some (.int .i64 a) := grownSome hg1 (by simp [go_sem])
    have c1 : w1.cell? ⟨w.heap.size, 1, none⟩ = some (.int .i64 b) := grownSome hg1 (by simp [go_sem])
    have c2 : w1.cell? ⟨w.heap.size + 1, 0, none⟩ = some (.int .i64 c) := grownSome hg1 (by simp [go_sem])
    have c3 : w1.cell? ⟨w.heap.size + 1, 1, none⟩ = some (.int .i64 d) := grownSome hg1 (by simp [go_sem])
    have k0 : w1.cell? ⟨w.heap.size + 2, 0, none⟩ = some (.int .i64 0) := grownSome hg1 (by simp [go_sem])
    have k1 : w1.cell? ⟨w.heap.size + 2, 1, none⟩ = some (.int .i64 0) := grownSome hg1 (by simp [go_sem])
    have f0 : w1.frozen? ⟨w.heap.size + 2, 0, none⟩ = false := (hg1.2.1 _).trans (by simp [go_sem])
    have f1 : w1.frozen? ⟨w.heap.size + 2, 1, none⟩ = false := (hg1.2.1 _).trans (by simp [go_sem])
    have G1 : Hid (Grown w w1) := Lib.hid (grownTrans (by go_grown) hg1)
    clear hg1
    go_wp2_with fail
    exact bodyPost_ret (v := .tuple #[.agg #[.int .i64 0, .int .i64 0], .int .i64 120]) (by simp [results, Tryd.results21, go_sem, k0, k1]) rfl ⟨rfl, (G1.out.setCell (by show w.heap.size ≤ w.heap.size + 2; omega) _).setCell (by show w.heap.size ≤ w.heap.size + 2; omega) _⟩
  | true =>
    have HB := Lib.hid (both_of_yes h)
    have hb := okB_bd h
    rw [← h, over_yes _ _ h]
    clear h
    obtain ⟨N, e1⟩ : ∃ N, IntKind.i64.wrap (a * c) = N := ⟨_, rfl⟩
    have hN : a * c = N := by rw [← e1, wrap_prod hb.1.1 hb.2.1]
    obtain ⟨D, e4⟩ : ∃ D, IntKind.i64.wrap (b * d) = D := ⟨_, rfl⟩
    have hD : b * d = D := by rw [← e4, wrap_prod hb.1.2 hb.2.2]
    rw [hN, hD]
    have E1 := Lib.hid e1
    have E4 := Lib.hid e4
    clear hN hD e1 e4
    clear hb
    obtain ⟨⟨rn, rd, re⟩, hr⟩ : ∃ r, makeS N D = r := ⟨_, rfl⟩
    have HM := Lib.hid hr
    rw [hr]
    clear hr
    go_enter Tryd.func21, Tryd.ntmps21
    go_wp2_with fail
    go_at_call 46
    refine (refboth_is a b c d 0 _ HB.out).mono ?_
    rintro e w1 ⟨rfl, hg1⟩
    have c0 : w1.cell? ⟨w.heap.size, 0, none⟩ = some (.int .i64 a) := grownSome hg1 (by simp [go_sem])
    have c1 : w1.cell? ⟨w.heap.size, 1, none⟩ = some (.int .i64 b) := grownSome hg1 (by simp [go_sem])
    have c2 : w1.cell? ⟨w.heap.size + 1, 0, none⟩ = some (.int .i64 c) := grownSome hg1 (by simp [go_sem])
    have c3 : w1.cell? ⟨w.heap.size + 1, 1, none⟩ = some (.int .i64 d) := grownSome hg1 (by simp [go_sem])
    have k0 : w1.cell? ⟨w.heap.size + 2, 0, none⟩ = some (.int .i64 0) := grownSome hg1 (by simp [go_sem])
    have k1 : w1.cell? ⟨w.heap.size + 2, 1, none⟩ = some (.int .i64 0) := grownSome hg1 (by simp [go_sem])
    have f0 : w1.frozen? ⟨w.heap.size + 2, 0, none⟩ = false := (hg1.2.1 _).trans (by simp [go_sem])
    have f1 : w1.frozen? ⟨w.heap.size + 2, 1, none⟩ = false := (hg1.2.1 _).trans (by simp [go_sem])
    have G1 : Hid (Grown w w1) := Lib.hid (grownTrans (by go_grown) hg1)
    clear hg1
    have e1 := E1.out
    have e4 := E4.out
    go_wp2_with fail
    go_at_call 11
    refine (refmake_is N D (rn, rd, re) HM.out _).mono ?_
    rintro e w2 ⟨rfl, hg2⟩
    have m0 : w2.cell? ⟨w.heap.size + 2, 0, none⟩ = some (.int .i64 0) := grownSome hg2 k0
    have m1 : w2.cell? ⟨w.heap.size + 2, 1, none⟩ = some (.int .i64 0) := grownSome hg2 k1
    have g0 : w2.frozen? ⟨w.heap.size + 2, 0, none⟩ = false := (hg2.2.1 _).trans f0
    have g1 : w2.frozen? ⟨w.heap.size + 2, 1, none⟩ = false := (hg2.2.1 _).trans f1
    have G2 : Hid (Grown w w2) := Lib.hid (grownTrans G1.out hg2)
    clear hg2
    go_wp2_with fail
    exact bodyPost_ret (v := .tuple #[.agg #[.int .i64 rn, .int .i64 rd], .int .i64 re]) (by simp [results, Tryd.results21, go_sem, m0, m1]) rfl ⟨rfl, (G2.out.setCell (by show w.heap.size ≤ w.heap.size + 2; omega) _).setCell (by show w.heap.size ≤ w.heap.size + 2; omega) _⟩

set_option maxHeartbeats 1000000 in
theorem refdiv_any (a b c d : Int) (w : World) : Calls Tryd.prog 23 #[.agg #[.int .i64 a, .int .i64 b], .agg #[.int .i64 c, .int .i64 d]] w (Frac (divF a b c d) w) := by
  unfold divF
  cases h : okB a b c d with
  | false =>
    have HB := Lib.hid (both_of_no h)
    rw [← h, over_no _ _ h]
    clear h
    go_enter Tryd.func23, Tryd.ntmps23
    go_wp2_with fail
    go_at_call 46
    refine (refboth_is a b c d 120 _ HB.out).mono ?_
    rintro e w1 ⟨rfl, hg1⟩
    have c0 : w1.cell? ⟨w.heap.size, 0, none⟩ = some (.int .i64 a) := grownSome hg1 (by simp [go_sem])
    have c1 : w1.cell? ⟨w.heap.size, 1, none⟩ = some (.int .i64 b) := grownSome hg1 (by simp [go_sem])
    have c2 : w1.cell? ⟨w.heap.size + 1, 0, none⟩ = some (.int .i64 c) := grownSome hg1 (by simp [go_sem])
    have c3 : w1.cell? ⟨w.heap.size + 1, 1, none⟩ = some (.int .i64 d) := grownSome hg1 (by simp [go_sem])
    have k0 : w1.cell? ⟨w.heap.size + 2, 0, none⟩ = some (.int .i64 0) := grownSome hg1 (by simp [go_sem])
    have k1 : w1.cell? ⟨w.heap.size + 2, 1, none⟩ = some (.int .i64 0) := grownSome hg1 (by simp [go_sem])
    have f0 : w1.frozen? ⟨w.heap.size + 2, 0, none⟩ = false := (hg1.2.1 _).trans (by simp [go_sem])
    have f1 : w1.frozen? ⟨w.heap.size + 2, 1, none⟩ = false := (hg1.2.1 _).trans (by simp [go_sem])
    have G1 : Hid (Grown w w1) := Lib.hid (grownTrans (by go_grown) hg1)
    clear hg1
    go_wp2_with fail
    exact bodyPost_ret (v := .tuple #[.agg #[.int .i64 0, .int .i64 0], .int .i64 120]) (by simp [results, Tryd.results23, go_sem, k0, k1]) rfl ⟨rfl, (G1.out.setCell (by show w.heap.size ≤ w.heap.size + 2; omega) _).setCell (by show w.heap.size ≤ w.heap.size + 2; omega) _⟩
  | true =>
    have HB := Lib.hid (both_of_yes h)
    have hb := okB_bd h
    rw [← h, over_yes _ _ h]
    clear h
    obtain ⟨N, e1⟩ : ∃ N, IntKind.i64.wrap (a * d) = N := ⟨_, rfl⟩
    have hN : a * d = N := by rw [← e1, wrap_prod hb.1.1 hb.2.2]
    obtain ⟨D, e4⟩ : ∃ D, IntKind.i64.wrap (b * c) = D := ⟨_, rfl⟩
    have hD : b * c = D := by rw [← e4, wrap_prod hb.1.2 hb.2.1]
    rw [hN, hD]
    have E1 := Lib.hid e1
    have E4 := Lib.hid e4
    clear hN hD e1 e4
    clear hb
    obtain ⟨⟨rn, rd, re⟩, hr⟩ : ∃ r, makeS N D = r := ⟨_, rfl⟩
    have HM := Lib.hid hr
    rw [hr]
    clear hr
    go_enter Tryd.func23, Tryd.ntmps23
    go_wp2_with fail
    go_at_call 46
    refine (refboth_is a b c d 0 _ HB.out).mono ?_
    rintro e w1 ⟨rfl, hg1⟩
    have c0 : w1.cell? ⟨w.heap.size, 0, none⟩ = some (.int .i64 a) := grownSome hg1 (by simp [go_sem])
    have c1 : w1.cell? ⟨w.heap.size, 1, none⟩ = some (.int .i64 b) := grownSome hg1 (by simp [go_sem])
    have c2 : w1.cell? ⟨w.heap.size + 1, 0, none⟩ = some (.int .i64 c) := grownSome hg1 (by simp [go_sem])
    have c3 : w1.cell? ⟨w.heap.size + 1, 1, none⟩ = some (.int .i64 d) := grownSome hg1 (by simp [go_sem])
    have k0 : w1.cell? ⟨w.heap.size + 2, 0, none⟩ = some (.int .i64 0) := grownSome hg1 (by simp [go_sem])
    have k1 : w1.cell? ⟨w.heap.size + 2, 1, none⟩ = some (.int .i64 0) := grownSome hg1 (by simp [go_sem])
    have f0 : w1.frozen? ⟨w.heap.size + 2, 0, none⟩ = false := (hg1.2.1 _).trans (by simp [go_sem])
    have f1 : w1.frozen? ⟨w.heap.size + 2, 1, none⟩ = false := (hg1.2.1 _).trans (by simp [go_sem])
    have G1 : Hid (Grown w w1) := Lib.hid (grownTrans (by go_grown) hg1)
    clear hg1
    have e1 := E1.out
    have e4 := E4.out
    go_wp2_with fail
    go_at_call 11
    refine (refmake_is N D (rn, rd, re) HM.out _).mono ?_
    rintro e w2 ⟨rfl, hg2⟩
    have m0 : w2.cell? ⟨w.heap.size + 2, 0, none⟩ = some (.int .i64 0) := grownSome hg2 k0
    have m1 : w2.cell? ⟨w.heap.size + 2, 1, none⟩ = some (.int .i64 0) := grownSome hg2 k1
    have g0 : w2.frozen? ⟨w.heap.size + 2, 0, none⟩ = false := (hg2.2.1 _).trans f0
    have g1 : w2.frozen? ⟨w.heap.size + 2, 1, none⟩ = false := (hg2.2.1 _).trans f1
    have G2 : Hid (Grown w w2) := Lib.hid (grownTrans G1.out hg2)
    clear hg2
    go_wp2_with fail
    exact bodyPost_ret (v := .tuple #[.agg #[.int .i64 rn, .int .i64 rd], .int .i64 re]) (by simp [results, Tryd.results23, go_sem, m0, m1]) rfl ⟨rfl, (G2.out.setCell (by show w.heap.size ≤ w.heap.size + 2; omega) _).setCell (by show w.heap.size ≤ w.heap.size + 2; omega) _⟩

end Go.Proofs.YtiibpdameldblaaDoor
