/- Add, Sub, Mul and Div of the package rat, for all fractions. -/
import Derived.Test.YtiibpdameldblaaDoorCombine
namespace Go.Proofs.YtiibpdameldblaaDoor
open Go Go.RowKit

theorem ok_bd {n d : Int} (h : okR n d = true) : (-1073741824 ≤ n ∧ n ≤ 1073741824) ∧ (-1073741824 ≤ d ∧ d ≤ 1073741824) := by
  rw [okR_iff] at h; omega
theorem okB_bd {a b c d : Int} (h : okB a b c d = true) : ((-1073741824 ≤ a ∧ a ≤ 1073741824) ∧ (-1073741824 ≤ b ∧ b ≤ 1073741824)) ∧ ((-1073741824 ≤ c ∧ c ≤ 1073741824) ∧ (-1073741824 ≤ d ∧ d ≤ 1073741824)) := by
  unfold okB at h
  have := (andB _ _).2 h
  exact ⟨ok_bd this.1, ok_bd this.2⟩
theorem wrap_prod {a b : Int} (ha : -1073741824 ≤ a ∧ a ≤ 1073741824) (hb : -1073741824 ≤ b ∧ b ≤ 1073741824) : IntKind.i64.wrap (a * b) = a * b := by
  have := prod_bd ha hb
  exact IntWalk.i64_in _ (by omega)
theorem wrap_prods {a b c d : Int} (ha : -1073741824 ≤ a ∧ a ≤ 1073741824) (hb : -1073741824 ≤ b ∧ b ≤ 1073741824) (hc : -1073741824 ≤ c ∧ c ≤ 1073741824) (hd : -1073741824 ≤ d ∧ d ≤ 1073741824) :
    IntKind.i64.wrap (a * b + c * d) = a * b + c * d ∧ IntKind.i64.wrap (a * b - c * d) = a * b - c * d := by
  have := prod_bd ha hb
  have := prod_bd hc hd
  exact ⟨IntWalk.i64_in _ (by omega), IntWalk.i64_in _ (by omega)⟩

set_option maxHeartbeats 1000000 in
theorem add_any (a b c d : Int) (w : World) (hT : Tab w) : Calls Tryd.prog 16 #[.agg #[.int .i64 a, .int .i64 b], .agg #[.int .i64 c, .int .i64 d]] w (Frac (addF a b c d) w) := by
  have HT := Lib.hid hT
  clear hT
  have hmf : ∀ (fn : Fn) (first cap : Array Value) (w : World), (Instr.makeFunc fn first cap).run Tryd.prog w = .ok (.func fn first cap) w := fun _ _ _ _ => rfl
  unfold addF
  cases h : okB a b c d with
  | false =>
    have HB := Lib.hid (both_of_no h)
    rw [← h, over_no _ _ h]
    clear h
    go_enter Tryd.func16, Tryd.ntmps16
    go_wp2_with fail
    go_at_call 44
    refine (combine_no a b c d _ _ (HT.out.grown (by go_grown)) HB).mono ?_
    rintro e w1 ⟨rfl, hg1⟩
    have c0 : w1.cell? ⟨w.heap.size + 2, 0, none⟩ = some (.int .i64 0) := grownSome hg1 (by simp [go_sem])
    have c1 : w1.cell? ⟨w.heap.size + 2, 1, none⟩ = some (.int .i64 0) := grownSome hg1 (by simp [go_sem])
    have f0 : w1.frozen? ⟨w.heap.size + 2, 0, none⟩ = false := (hg1.2.1 _).trans (by simp [go_sem])
    have f1 : w1.frozen? ⟨w.heap.size + 2, 1, none⟩ = false := (hg1.2.1 _).trans (by simp [go_sem])
    go_wp2_with fail
    exact bodyPost_ret (v := .tuple #[.agg #[.int .i64 0, .int .i64 0], .int .i64 120]) (by simp [results, Tryd.results16, go_sem, c0, c1]) rfl ⟨rfl, ((grownTrans (by go_grown) hg1).setCell (by show w.heap.size ≤ w.heap.size + 2; omega) _).setCell (by show w.heap.size ≤ w.heap.size + 2; omega) _⟩
  | true =>
    have HB := Lib.hid (both_of_yes h)
    have hb := okB_bd h
    rw [← h, over_yes _ _ h]
    have E1 := Lib.hid (wrap_prod hb.1.1 hb.2.2)
    have E2 := Lib.hid (wrap_prod hb.2.1 hb.1.2)
    have E3 := Lib.hid (wrap_prods hb.1.1 hb.2.2 hb.2.1 hb.1.2).1
    have E4 := Lib.hid (wrap_prod hb.1.2 hb.2.2)
    obtain ⟨⟨rn, rd, re⟩, hr⟩ : ∃ r, makeS (a * d + c * b) (b * d) = r := ⟨_, rfl⟩
    have HM := Lib.hid hr
    rw [hr]
    clear h hb hr
    go_enter Tryd.func16, Tryd.ntmps16
    go_wp2_with fail
    go_at_call 44
    refine (add_combine a b c d _ _ _ _ rn rd re _ _ _ (HT.out.grown (by go_grown)) HB (Lib.hid (by simp [go_sem])) (Lib.hid (by simp [go_sem])) (Lib.hid (by simp [go_sem])) (Lib.hid (by simp [go_sem])) E1 E2 E3 E4 HM).mono ?_
    rintro e w1 ⟨rfl, hg1⟩
    have c0 : w1.cell? ⟨w.heap.size + 2, 0, none⟩ = some (.int .i64 0) := grownSome hg1 (by simp [go_sem])
    have c1 : w1.cell? ⟨w.heap.size + 2, 1, none⟩ = some (.int .i64 0) := grownSome hg1 (by simp [go_sem])
    have f0 : w1.frozen? ⟨w.heap.size + 2, 0, none⟩ = false := (hg1.2.1 _).trans (by simp [go_sem])
    have f1 : w1.frozen? ⟨w.heap.size + 2, 1, none⟩ = false := (hg1.2.1 _).trans (by simp [go_sem])
    go_wp2_with fail
    exact bodyPost_ret (v := .tuple #[.agg #[.int .i64 rn, .int .i64 rd], .int .i64 re]) (by simp [results, Tryd.results16, go_sem, c0, c1]) rfl ⟨rfl, ((grownTrans (by go_grown) hg1).setCell (by show w.heap.size ≤ w.heap.size + 2; omega) _).setCell (by show w.heap.size ≤ w.heap.size + 2; omega) _⟩

set_option maxHeartbeats 1000000 in
theorem sub_any (a b c d : Int) (w : World) (hT : Tab w) : Calls Tryd.prog 18 #[.agg #[.int .i64 a, .int .i64 b], .agg #[.int .i64 c, .int .i64 d]] w (Frac (subF a b c d) w) := by
  have HT := Lib.hid hT
  clear hT
  have hmf : ∀ (fn : Fn) (first cap : Array Value) (w : World), (Instr.makeFunc fn first cap).run Tryd.prog w = .ok (.func fn first cap) w := fun _ _ _ _ => rfl
  unfold subF
  cases h : okB a b c d with
  | false =>
    have HB := Lib.hid (both_of_no h)
    rw [← h, over_no _ _ h]
    clear h
    go_enter Tryd.func18, Tryd.ntmps18
    go_wp2_with fail
    go_at_call 44
    refine (combine_no a b c d _ _ (HT.out.grown (by go_grown)) HB).mono ?_
    rintro e w1 ⟨rfl, hg1⟩
    have c0 : w1.cell? ⟨w.heap.size + 2, 0, none⟩ = some (.int .i64 0) := grownSome hg1 (by simp [go_sem])
    have c1 : w1.cell? ⟨w.heap.size + 2, 1, none⟩ = some (.int .i64 0) := grownSome hg1 (by simp [go_sem])
    have f0 : w1.frozen? ⟨w.heap.size + 2, 0, none⟩ = false := (hg1.2.1 _).trans (by simp [go_sem])
    have f1 : w1.frozen? ⟨w.heap.size + 2, 1, none⟩ = false := (hg1.2.1 _).trans (by simp [go_sem])
    go_wp2_with fail
    exact bodyPost_ret (v := .tuple #[.agg #[.int .i64 0, .int .i64 0], .int .i64 120]) (by simp [results, Tryd.results18, go_sem, c0, c1]) rfl ⟨rfl, ((grownTrans (by go_grown) hg1).setCell (by show w.heap.size ≤ w.heap.size + 2; omega) _).setCell (by show w.heap.size ≤ w.heap.size + 2; omega) _⟩
  | true =>
    have HB := Lib.hid (both_of_yes h)
    have hb := okB_bd h
    rw [← h, over_yes _ _ h]
    have E1 := Lib.hid (wrap_prod hb.1.1 hb.2.2)
    have E2 := Lib.hid (wrap_prod hb.2.1 hb.1.2)
    have E3 := Lib.hid (wrap_prods hb.1.1 hb.2.2 hb.2.1 hb.1.2).2
    have E4 := Lib.hid (wrap_prod hb.1.2 hb.2.2)
    obtain ⟨⟨rn, rd, re⟩, hr⟩ : ∃ r, makeS (a * d - c * b) (b * d) = r := ⟨_, rfl⟩
    have HM := Lib.hid hr
    rw [hr]
    clear h hb hr
    go_enter Tryd.func18, Tryd.ntmps18
    go_wp2_with fail
    go_at_call 44
    refine (sub_combine a b c d _ _ _ _ rn rd re _ _ _ (HT.out.grown (by go_grown)) HB (Lib.hid (by simp [go_sem])) (Lib.hid (by simp [go_sem])) (Lib.hid (by simp [go_sem])) (Lib.hid (by simp [go_sem])) E1 E2 E3 E4 HM).mono ?_
    rintro e w1 ⟨rfl, hg1⟩
    have c0 : w1.cell? ⟨w.heap.size + 2, 0, none⟩ = some (.int .i64 0) := grownSome hg1 (by simp [go_sem])
    have c1 : w1.cell? ⟨w.heap.size + 2, 1, none⟩ = some (.int .i64 0) := grownSome hg1 (by simp [go_sem])
    have f0 : w1.frozen? ⟨w.heap.size + 2, 0, none⟩ = false := (hg1.2.1 _).trans (by simp [go_sem])
    have f1 : w1.frozen? ⟨w.heap.size + 2, 1, none⟩ = false := (hg1.2.1 _).trans (by simp [go_sem])
    go_wp2_with fail
    exact bodyPost_ret (v := .tuple #[.agg #[.int .i64 rn, .int .i64 rd], .int .i64 re]) (by simp [results, Tryd.results18, go_sem, c0, c1]) rfl ⟨rfl, ((grownTrans (by go_grown) hg1).setCell (by show w.heap.size ≤ w.heap.size + 2; omega) _).setCell (by show w.heap.size ≤ w.heap.size + 2; omega) _⟩

set_option maxHeartbeats 1000000 in
theorem mul_any (a b c d : Int) (w : World) (hT : Tab w) : Calls Tryd.prog 20 #[.agg #[.int .i64 a, .int .i64 b], .agg #[.int .i64 c, .int .i64 d]] w (Frac (mulF a b c d) w) := by
  have HT := Lib.hid hT
  clear hT
  have hmf : ∀ (fn : Fn) (first cap : Array Value) (w : World), (Instr.makeFunc fn first cap).run Tryd.prog w = .ok (.func fn first cap) w := fun _ _ _ _ => rfl
  unfold mulF
  cases h : okB a b c d with
  | false =>
    have HB := Lib.hid (both_of_no h)
    rw [← h, over_no _ _ h]
    clear h
    go_enter Tryd.func20, Tryd.ntmps20
    go_wp2_with fail
    go_at_call 44
    refine (combine_no a b c d _ _ (HT.out.grown (by go_grown)) HB).mono ?_
    rintro e w1 ⟨rfl, hg1⟩
    have c0 : w1.cell? ⟨w.heap.size + 2, 0, none⟩ = some (.int .i64 0) := grownSome hg1 (by simp [go_sem])
    have c1 : w1.cell? ⟨w.heap.size + 2, 1, none⟩ = some (.int .i64 0) := grownSome hg1 (by simp [go_sem])
    have f0 : w1.frozen? ⟨w.heap.size + 2, 0, none⟩ = false := (hg1.2.1 _).trans (by simp [go_sem])
    have f1 : w1.frozen? ⟨w.heap.size + 2, 1, none⟩ = false := (hg1.2.1 _).trans (by simp [go_sem])
    go_wp2_with fail
    exact bodyPost_ret (v := .tuple #[.agg #[.int .i64 0, .int .i64 0], .int .i64 120]) (by simp [results, Tryd.results20, go_sem, c0, c1]) rfl ⟨rfl, ((grownTrans (by go_grown) hg1).setCell (by show w.heap.size ≤ w.heap.size + 2; omega) _).setCell (by show w.heap.size ≤ w.heap.size + 2; omega) _⟩
  | true =>
    have HB := Lib.hid (both_of_yes h)
    have hb := okB_bd h
    rw [← h, over_yes _ _ h]
    have E1 := Lib.hid (wrap_prod hb.1.1 hb.2.1)
    have E4 := Lib.hid (wrap_prod hb.1.2 hb.2.2)
    obtain ⟨⟨rn, rd, re⟩, hr⟩ : ∃ r, makeS (a * c) (b * d) = r := ⟨_, rfl⟩
    have HM := Lib.hid hr
    rw [hr]
    clear h hb hr
    go_enter Tryd.func20, Tryd.ntmps20
    go_wp2_with fail
    go_at_call 44
    refine (mul_combine a b c d _ _ rn rd re _ _ _ (HT.out.grown (by go_grown)) HB (Lib.hid (by simp [go_sem])) (Lib.hid (by simp [go_sem])) (Lib.hid (by simp [go_sem])) (Lib.hid (by simp [go_sem])) E1 E4 HM).mono ?_
    rintro e w1 ⟨rfl, hg1⟩
    have c0 : w1.cell? ⟨w.heap.size + 2, 0, none⟩ = some (.int .i64 0) := grownSome hg1 (by simp [go_sem])
    have c1 : w1.cell? ⟨w.heap.size + 2, 1, none⟩ = some (.int .i64 0) := grownSome hg1 (by simp [go_sem])
    have f0 : w1.frozen? ⟨w.heap.size + 2, 0, none⟩ = false := (hg1.2.1 _).trans (by simp [go_sem])
    have f1 : w1.frozen? ⟨w.heap.size + 2, 1, none⟩ = false := (hg1.2.1 _).trans (by simp [go_sem])
    go_wp2_with fail
    exact bodyPost_ret (v := .tuple #[.agg #[.int .i64 rn, .int .i64 rd], .int .i64 re]) (by simp [results, Tryd.results20, go_sem, c0, c1]) rfl ⟨rfl, ((grownTrans (by go_grown) hg1).setCell (by show w.heap.size ≤ w.heap.size + 2; omega) _).setCell (by show w.heap.size ≤ w.heap.size + 2; omega) _⟩

set_option maxHeartbeats 1000000 in
theorem div_any (a b c d : Int) (w : World) (hT : Tab w) : Calls Tryd.prog 22 #[.agg #[.int .i64 a, .int .i64 b], .agg #[.int .i64 c, .int .i64 d]] w (Frac (divF a b c d) w) := by
  have HT := Lib.hid hT
  clear hT
  have hmf : ∀ (fn : Fn) (first cap : Array Value) (w : World), (Instr.makeFunc fn first cap).run Tryd.prog w = .ok (.func fn first cap) w := fun _ _ _ _ => rfl
  unfold divF
  cases h : okB a b c d with
  | false =>
    have HB := Lib.hid (both_of_no h)
    rw [← h, over_no _ _ h]
    clear h
    go_enter Tryd.func22, Tryd.ntmps22
    go_wp2_with fail
    go_at_call 44
    refine (combine_no a b c d _ _ (HT.out.grown (by go_grown)) HB).mono ?_
    rintro e w1 ⟨rfl, hg1⟩
    have c0 : w1.cell? ⟨w.heap.size + 2, 0, none⟩ = some (.int .i64 0) := grownSome hg1 (by simp [go_sem])
    have c1 : w1.cell? ⟨w.heap.size + 2, 1, none⟩ = some (.int .i64 0) := grownSome hg1 (by simp [go_sem])
    have f0 : w1.frozen? ⟨w.heap.size + 2, 0, none⟩ = false := (hg1.2.1 _).trans (by simp [go_sem])
    have f1 : w1.frozen? ⟨w.heap.size + 2, 1, none⟩ = false := (hg1.2.1 _).trans (by simp [go_sem])
    go_wp2_with fail
    exact bodyPost_ret (v := .tuple #[.agg #[.int .i64 0, .int .i64 0], .int .i64 120]) (by simp [results, Tryd.results22, go_sem, c0, c1]) rfl ⟨rfl, ((grownTrans (by go_grown) hg1).setCell (by show w.heap.size ≤ w.heap.size + 2; omega) _).setCell (by show w.heap.size ≤ w.heap.size + 2; omega) _⟩
  | true =>
    have HB := Lib.hid (both_of_yes h)
    have hb := okB_bd h
    rw [← h, over_yes _ _ h]
    have E1 := Lib.hid (wrap_prod hb.1.1 hb.2.2)
    have E4 := Lib.hid (wrap_prod hb.1.2 hb.2.1)
    obtain ⟨⟨rn, rd, re⟩, hr⟩ : ∃ r, makeS (a * d) (b * c) = r := ⟨_, rfl⟩
    have HM := Lib.hid hr
    rw [hr]
    clear h hb hr
    go_enter Tryd.func22, Tryd.ntmps22
    go_wp2_with fail
    go_at_call 44
    refine (div_combine a b c d _ _ rn rd re _ _ _ (HT.out.grown (by go_grown)) HB (Lib.hid (by simp [go_sem])) (Lib.hid (by simp [go_sem])) (Lib.hid (by simp [go_sem])) (Lib.hid (by simp [go_sem])) E1 E4 HM).mono ?_
    rintro e w1 ⟨rfl, hg1⟩
    have c0 : w1.cell? ⟨w.heap.size + 2, 0, none⟩ = some (.int .i64 0) := grownSome hg1 (by simp [go_sem])
    have c1 : w1.cell? ⟨w.heap.size + 2, 1, none⟩ = some (.int .i64 0) := grownSome hg1 (by simp [go_sem])
    have f0 : w1.frozen? ⟨w.heap.size + 2, 0, none⟩ = false := (hg1.2.1 _).trans (by simp [go_sem])
    have f1 : w1.frozen? ⟨w.heap.size + 2, 1, none⟩ = false := (hg1.2.1 _).trans (by simp [go_sem])
    go_wp2_with fail
    exact bodyPost_ret (v := .tuple #[.agg #[.int .i64 rn, .int .i64 rd], .int .i64 re]) (by simp [results, Tryd.results22, go_sem, c0, c1]) rfl ⟨rfl, ((grownTrans (by go_grown) hg1).setCell (by show w.heap.size ≤ w.heap.size + 2; omega) _).setCell (by show w.heap.size ≤ w.heap.size + 2; omega) _⟩

end Go.Proofs.YtiibpdameldblaaDoor
