/- What Add, Sub, Mul and Div of the package rat return, for all fractions. -/
import Derived.Test.YtiibpdameldblaaDoorCross
namespace Go.Proofs.YtiibpdameldblaaDoor
open Go Go.RowKit

theorem combine_no (n1 d1 n2 d2 : Int) (v : Value) (w : World) (hT : Tab w) (HB : Hid (bothS n1 d1 n2 d2 = 120)) :
    Calls Tryd.prog 44 #[.agg #[.int .i64 n1, .int .i64 d1], .agg #[.int .i64 n2, .int .i64 d2], v] w (Frac (0, 0, 120) w) := by
  have HT := Lib.hid hT
  clear hT
  go_enter Tryd.func44, Tryd.ntmps44
  go_wp2_with (go_at_call 50; ((with_reducible refine (checkAll_is n1 d1 n2 d2 120 _ _ (HT.out.grown (by go_grown)) (by simp [go_sem]) HB.out).mono ?_); rintro e w1 ⟨rfl, hg1⟩; have c0 : w1.cell? ⟨w.heap.size + 2, 0, none⟩ = some (.int .i64 0) := grownSome hg1 (by simp [go_sem]); have c1 : w1.cell? ⟨w.heap.size + 2, 1, none⟩ = some (.int .i64 0) := grownSome hg1 (by simp [go_sem]); have f0 : w1.frozen? ⟨w.heap.size + 2, 0, none⟩ = false := (hg1.2.1 _).trans (by simp [go_sem]); have f1 : w1.frozen? ⟨w.heap.size + 2, 1, none⟩ = false := (hg1.2.1 _).trans (by simp [go_sem])))
  exact bodyPost_ret (v := .tuple #[.agg #[.int .i64 0, .int .i64 0], .int .i64 120]) (by simp [results, Tryd.results44, go_sem, c0, c1]) rfl ⟨rfl, ((grownTrans (by go_grown) hg1).setCell (by show w.heap.size ≤ w.heap.size + 2; omega) _).setCell (by show w.heap.size ≤ w.heap.size + 2; omega) _⟩

theorem add_combine (n1 d1 n2 d2 : Int) (N N1 N2 D : Int) (rn rd re : Int) (p q : Nat) (w : World) (hT : Tab w) (HB : Hid (bothS n1 d1 n2 d2 = 0))
    (cp0 : Hid (w.cell? ⟨p, 0, none⟩ = some (.int .i64 n1))) (cp1 : Hid (w.cell? ⟨p, 1, none⟩ = some (.int .i64 d1))) (cq0 : Hid (w.cell? ⟨q, 0, none⟩ = some (.int .i64 n2))) (cq1 : Hid (w.cell? ⟨q, 1, none⟩ = some (.int .i64 d2)))
    (e1 : Hid (IntKind.i64.wrap (n1 * d2) = N1)) (e2 : Hid (IntKind.i64.wrap (n2 * d1) = N2)) (e3 : Hid (IntKind.i64.wrap (N1 + N2) = N)) (e4 : Hid (IntKind.i64.wrap (d1 * d2) = D)) (HM : Hid (makeS N D = (rn, rd, re))) :
    Calls Tryd.prog 44 #[.agg #[.int .i64 n1, .int .i64 d1], .agg #[.int .i64 n2, .int .i64 d2], .func (.func 45) #[] #[.pointer (some ⟨p, 0, none⟩), .pointer (some ⟨q, 0, none⟩)]] w (Frac (rn, rd, re) w) := by
  have HT := Lib.hid hT
  clear hT
  go_enter Tryd.func44, Tryd.ntmps44
  go_wp2_with fail
  go_at_call 50
  refine (checkAll_is n1 d1 n2 d2 0 _ _ (HT.out.grown (by go_grown)) (by simp [go_sem]) HB.out).mono ?_
  rintro e w1 ⟨rfl, hg1⟩
  have G1 : Hid (Grown w w1) := Lib.hid (grownTrans (by go_grown) hg1)
  have c0 : w1.cell? ⟨w.heap.size + 2, 0, none⟩ = some (.int .i64 0) := grownSome hg1 (by simp [go_sem])
  have c1 : w1.cell? ⟨w.heap.size + 2, 1, none⟩ = some (.int .i64 0) := grownSome hg1 (by simp [go_sem])
  have f0 : w1.frozen? ⟨w.heap.size + 2, 0, none⟩ = false := (hg1.2.1 _).trans (by simp [go_sem])
  have f1 : w1.frozen? ⟨w.heap.size + 2, 1, none⟩ = false := (hg1.2.1 _).trans (by simp [go_sem])
  have p0 := grownSome G1.out cp0.out
  have p1 := grownSome G1.out cp1.out
  have q0 := grownSome G1.out cq0.out
  have q1 := grownSome G1.out cq1.out
  clear hg1
  go_wp2_with fail
  go_at_call 45
  refine (add_cross n1 d1 n2 d2 N N1 N2 D p q _ p0 p1 q0 q1 e1.out e2.out e3.out e4.out).mono ?_
  rintro e w' ⟨rfl, nq, rfl⟩
  go_wp2_with fail
  go_at_call 10
  refine (make_is N D (rn, rd, re) HM.out _).mono ?_
  rintro e w2 ⟨rfl, hg2⟩
  have k0 : w2.cell? ⟨w.heap.size + 2, 0, none⟩ = some (.int .i64 0) := grownSome hg2 c0
  have k1 : w2.cell? ⟨w.heap.size + 2, 1, none⟩ = some (.int .i64 0) := grownSome hg2 c1
  have g0 : w2.frozen? ⟨w.heap.size + 2, 0, none⟩ = false := (hg2.2.1 _).trans f0
  have g1 : w2.frozen? ⟨w.heap.size + 2, 1, none⟩ = false := (hg2.2.1 _).trans f1
  have G2 : Hid (Grown w w2) := Lib.hid (grownTrans (grownDrewN G1.out _) hg2)
  clear hg2
  go_wp2_with fail
  exact bodyPost_ret (v := .tuple #[.agg #[.int .i64 rn, .int .i64 rd], .int .i64 re]) (by simp [results, Tryd.results44, go_sem, k0, k1]) rfl ⟨rfl, (G2.out.setCell (by show w.heap.size ≤ w.heap.size + 2; omega) _).setCell (by show w.heap.size ≤ w.heap.size + 2; omega) _⟩

theorem sub_combine (n1 d1 n2 d2 : Int) (N N1 N2 D : Int) (rn rd re : Int) (p q : Nat) (w : World) (hT : Tab w) (HB : Hid (bothS n1 d1 n2 d2 = 0))
    (cp0 : Hid (w.cell? ⟨p, 0, none⟩ = some (.int .i64 n1))) (cp1 : Hid (w.cell? ⟨p, 1, none⟩ = some (.int .i64 d1))) (cq0 : Hid (w.cell? ⟨q, 0, none⟩ = some (.int .i64 n2))) (cq1 : Hid (w.cell? ⟨q, 1, none⟩ = some (.int .i64 d2)))
    (e1 : Hid (IntKind.i64.wrap (n1 * d2) = N1)) (e2 : Hid (IntKind.i64.wrap (n2 * d1) = N2)) (e3 : Hid (IntKind.i64.wrap (N1 - N2) = N)) (e4 : Hid (IntKind.i64.wrap (d1 * d2) = D)) (HM : Hid (makeS N D = (rn, rd, re))) :
    Calls Tryd.prog 44 #[.agg #[.int .i64 n1, .int .i64 d1], .agg #[.int .i64 n2, .int .i64 d2], .func (.func 47) #[] #[.pointer (some ⟨p, 0, none⟩), .pointer (some ⟨q, 0, none⟩)]] w (Frac (rn, rd, re) w) := by
  have HT := Lib.hid hT
  clear hT
  go_enter Tryd.func44, Tryd.ntmps44
  go_wp2_with fail
  go_at_call 50
  refine (checkAll_is n1 d1 n2 d2 0 _ _ (HT.out.grown (by go_grown)) (by simp [go_sem]) HB.out).mono ?_
  rintro e w1 ⟨rfl, hg1⟩
  have G1 : Hid (Grown w w1) := Lib.hid (grownTrans (by go_grown) hg1)
  have c0 : w1.cell? ⟨w.heap.size + 2, 0, none⟩ = some (.int .i64 0) := grownSome hg1 (by simp [go_sem])
  have c1 : w1.cell? ⟨w.heap.size + 2, 1, none⟩ = some (.int .i64 0) := grownSome hg1 (by simp [go_sem])
  have f0 : w1.frozen? ⟨w.heap.size + 2, 0, none⟩ = false := (hg1.2.1 _).trans (by simp [go_sem])
  have f1 : w1.frozen? ⟨w.heap.size + 2, 1, none⟩ = false := (hg1.2.1 _).trans (by simp [go_sem])
  have p0 := grownSome G1.out cp0.out
  have p1 := grownSome G1.out cp1.out
  have q0 := grownSome G1.out cq0.out
  have q1 := grownSome G1.out cq1.out
  clear hg1
  go_wp2_with fail
  go_at_call 47
  refine (sub_cross n1 d1 n2 d2 N N1 N2 D p q _ p0 p1 q0 q1 e1.out e2.out e3.out e4.out).mono ?_
  rintro e w' ⟨rfl, nq, rfl⟩
  go_wp2_with fail
  go_at_call 10
  refine (make_is N D (rn, rd, re) HM.out _).mono ?_
  rintro e w2 ⟨rfl, hg2⟩
  have k0 : w2.cell? ⟨w.heap.size + 2, 0, none⟩ = some (.int .i64 0) := grownSome hg2 c0
  have k1 : w2.cell? ⟨w.heap.size + 2, 1, none⟩ = some (.int .i64 0) := grownSome hg2 c1
  have g0 : w2.frozen? ⟨w.heap.size + 2, 0, none⟩ = false := (hg2.2.1 _).trans f0
  have g1 : w2.frozen? ⟨w.heap.size + 2, 1, none⟩ = false := (hg2.2.1 _).trans f1
  have G2 : Hid (Grown w w2) := Lib.hid (grownTrans (grownDrewN G1.out _) hg2)
  clear hg2
  go_wp2_with fail
  exact bodyPost_ret (v := .tuple #[.agg #[.int .i64 rn, .int .i64 rd], .int .i64 re]) (by simp [results, Tryd.results44, go_sem, k0, k1]) rfl ⟨rfl, (G2.out.setCell (by show w.heap.size ≤ w.heap.size + 2; omega) _).setCell (by show w.heap.size ≤ w.heap.size + 2; omega) _⟩

theorem mul_combine (n1 d1 n2 d2 : Int) (N D : Int) (rn rd re : Int) (p q : Nat) (w : World) (hT : Tab w) (HB : Hid (bothS n1 d1 n2 d2 = 0))
    (cp0 : Hid (w.cell? ⟨p, 0, none⟩ = some (.int .i64 n1))) (cp1 : Hid (w.cell? ⟨p, 1, none⟩ = some (.int .i64 d1))) (cq0 : Hid (w.cell? ⟨q, 0, none⟩ = some (.int .i64 n2))) (cq1 : Hid (w.cell? ⟨q, 1, none⟩ = some (.int .i64 d2)))
    (e1 : Hid (IntKind.i64.wrap (n1 * n2) = N)) (e4 : Hid (IntKind.i64.wrap (d1 * d2) = D)) (HM : Hid (makeS N D = (rn, rd, re))) :
    Calls Tryd.prog 44 #[.agg #[.int .i64 n1, .int .i64 d1], .agg #[.int .i64 n2, .int .i64 d2], .func (.func 48) #[] #[.pointer (some ⟨p, 0, none⟩), .pointer (some ⟨q, 0, none⟩)]] w (Frac (rn, rd, re) w) := by
  have HT := Lib.hid hT
  clear hT
  go_enter Tryd.func44, Tryd.ntmps44
  go_wp2_with fail
  go_at_call 50
  refine (checkAll_is n1 d1 n2 d2 0 _ _ (HT.out.grown (by go_grown)) (by simp [go_sem]) HB.out).mono ?_
  rintro e w1 ⟨rfl, hg1⟩
  have G1 : Hid (Grown w w1) := Lib.hid (grownTrans (by go_grown) hg1)
  have c0 : w1.cell? ⟨w.heap.size + 2, 0, none⟩ = some (.int .i64 0) := grownSome hg1 (by simp [go_sem])
  have c1 : w1.cell? ⟨w.heap.size + 2, 1, none⟩ = some (.int .i64 0) := grownSome hg1 (by simp [go_sem])
  have f0 : w1.frozen? ⟨w.heap.size + 2, 0, none⟩ = false := (hg1.2.1 _).trans (by simp [go_sem])
  have f1 : w1.frozen? ⟨w.heap.size + 2, 1, none⟩ = false := (hg1.2.1 _).trans (by simp [go_sem])
  have p0 := grownSome G1.out cp0.out
  have p1 := grownSome G1.out cp1.out
  have q0 := grownSome G1.out cq0.out
  have q1 := grownSome G1.out cq1.out
  clear hg1
  go_wp2_with fail
  go_at_call 48
  refine (mul_cross n1 d1 n2 d2 N D p q _ p0 p1 q0 q1 e1.out e4.out).mono ?_
  rintro e w' ⟨rfl, nq, rfl⟩
  go_wp2_with fail
  go_at_call 10
  refine (make_is N D (rn, rd, re) HM.out _).mono ?_
  rintro e w2 ⟨rfl, hg2⟩
  have k0 : w2.cell? ⟨w.heap.size + 2, 0, none⟩ = some (.int .i64 0) := grownSome hg2 c0
  have k1 : w2.cell? ⟨w.heap.size + 2, 1, none⟩ = some (.int .i64 0) := grownSome hg2 c1
  have g0 : w2.frozen? ⟨w.heap.size + 2, 0, none⟩ = false := (hg2.2.1 _).trans f0
  have g1 : w2.frozen? ⟨w.heap.size + 2, 1, none⟩ = false := (hg2.2.1 _).trans f1
  have G2 : Hid (Grown w w2) := Lib.hid (grownTrans (grownDrewN G1.out _) hg2)
  clear hg2
  go_wp2_with fail
  exact bodyPost_ret (v := .tuple #[.agg #[.int .i64 rn, .int .i64 rd], .int .i64 re]) (by simp [results, Tryd.results44, go_sem, k0, k1]) rfl ⟨rfl, (G2.out.setCell (by show w.heap.size ≤ w.heap.size + 2; omega) _).setCell (by show w.heap.size ≤ w.heap.size + 2; omega) _⟩

theorem div_combine (n1 d1 n2 d2 : Int) (N D : Int) (rn rd re : Int) (p q : Nat) (w : World) (hT : Tab w) (HB : Hid (bothS n1 d1 n2 d2 = 0))
    (cp0 : Hid (w.cell? ⟨p, 0, none⟩ = some (.int .i64 n1))) (cp1 : Hid (w.cell? ⟨p, 1, none⟩ = some (.int .i64 d1))) (cq0 : Hid (w.cell? ⟨q, 0, none⟩ = some (.int .i64 n2))) (cq1 : Hid (w.cell? ⟨q, 1, none⟩ = some (.int .i64 d2)))
    (e1 : Hid (IntKind.i64.wrap (n1 * d2) = N)) (e4 : Hid (IntKind.i64.wrap (d1 * n2) = D)) (HM : Hid (makeS N D = (rn, rd, re))) :
    Calls Tryd.prog 44 #[.agg #[.int .i64 n1, .int .i64 d1], .agg #[.int .i64 n2, .int .i64 d2], .func (.func 49) #[] #[.pointer (some ⟨p, 0, none⟩), .pointer (some ⟨q, 0, none⟩)]] w (Frac (rn, rd, re) w) := by
  have HT := Lib.hid hT
  clear hT
  go_enter Tryd.func44, Tryd.ntmps44
  go_wp2_with fail
  go_at_call 50
  refine (checkAll_is n1 d1 n2 d2 0 _ _ (HT.out.grown (by go_grown)) (by simp [go_sem]) HB.out).mono ?_
  rintro e w1 ⟨rfl, hg1⟩
  have G1 : Hid (Grown w w1) := Lib.hid (grownTrans (by go_grown) hg1)
  have c0 : w1.cell? ⟨w.heap.size + 2, 0, none⟩ = some (.int .i64 0) := grownSome hg1 (by simp [go_sem])
  have c1 : w1.cell? ⟨w.heap.size + 2, 1, none⟩ = some (.int .i64 0) := grownSome hg1 (by simp [go_sem])
  have f0 : w1.frozen? ⟨w.heap.size + 2, 0, none⟩ = false := (hg1.2.1 _).trans (by simp [go_sem])
  have f1 : w1.frozen? ⟨w.heap.size + 2, 1, none⟩ = false := (hg1.2.1 _).trans (by simp [go_sem])
  have p0 := grownSome G1.out cp0.out
  have p1 := grownSome G1.out cp1.out
  have q0 := grownSome G1.out cq0.out
  have q1 := grownSome G1.out cq1.out
  clear hg1
  go_wp2_with fail
  go_at_call 49
  refine (div_cross n1 d1 n2 d2 N D p q _ p0 p1 q0 q1 e1.out e4.out).mono ?_
  rintro e w' ⟨rfl, nq, rfl⟩
  go_wp2_with fail
  go_at_call 10
  refine (make_is N D (rn, rd, re) HM.out _).mono ?_
  rintro e w2 ⟨rfl, hg2⟩
  have k0 : w2.cell? ⟨w.heap.size + 2, 0, none⟩ = some (.int .i64 0) := grownSome hg2 c0
  have k1 : w2.cell? ⟨w.heap.size + 2, 1, none⟩ = some (.int .i64 0) := grownSome hg2 c1
  have g0 : w2.frozen? ⟨w.heap.size + 2, 0, none⟩ = false := (hg2.2.1 _).trans f0
  have g1 : w2.frozen? ⟨w.heap.size + 2, 1, none⟩ = false := (hg2.2.1 _).trans f1
  have G2 : Hid (Grown w w2) := Lib.hid (grownTrans (grownDrewN G1.out _) hg2)
  clear hg2
  go_wp2_with fail
  exact bodyPost_ret (v := .tuple #[.agg #[.int .i64 rn, .int .i64 rd], .int .i64 re]) (by simp [results, Tryd.results44, go_sem, k0, k1]) rfl ⟨rfl, (G2.out.setCell (by show w.heap.size ≤ w.heap.size + 2; omega) _).setCell (by show w.heap.size ≤ w.heap.size + 2; omega) _⟩

end Go.Proofs.YtiibpdameldblaaDoor
