/- What order, Min and Max of the package rat return. -/
import Derived.Test.YtiibpdameldblaaDoorCmp
import Derived.RegionTactic
namespace Go.Proofs.YtiibpdameldblaaDoor
open Go Go.RowKit

/-- 'e' is two fractions and an error, and the world has only grown. -/
def Ends (r s : Int × Int) (z : Int) (w : World) (e : Ending) (w' : World) : Prop :=
  e = .returned (.tuple #[.agg #[.int .i64 r.1, .int .i64 r.2], .agg #[.int .i64 s.1, .int .i64 s.2], .int .i64 z]) ∧ Grown w w'

set_option maxHeartbeats 1000000 in
theorem order_no (a b c d s : Int) (w : World) (hT : Tab w) (HC : Hid (cmpF a b c d = (s, 120))) :
    Calls Tryd.prog 51 #[.agg #[.int .i64 a, .int .i64 b], .agg #[.int .i64 c, .int .i64 d]] w (Ends (0, 0) (0, 0) 120 w) := by
  have HT := Lib.hid hT
  clear hT
  go_enter Tryd.func51, Tryd.ntmps51
  go_wp2_with fail
  go_at_call 24
  refine (cmp_is a b c d (s, 120) _ (HT.out.grown (by go_grown)) HC.out).mono ?_
  rintro e w1 ⟨rfl, hg1⟩
  have c00 : w1.cell? ⟨w.heap.size, 0, none⟩ = some (.int .i64 a) := grownSome hg1 (by simp [go_sem])
  have fc00 : w1.frozen? ⟨w.heap.size, 0, none⟩ = false := (hg1.2.1 _).trans (by simp [go_sem])
  have c01 : w1.cell? ⟨w.heap.size, 1, none⟩ = some (.int .i64 b) := grownSome hg1 (by simp [go_sem])
  have fc01 : w1.frozen? ⟨w.heap.size, 1, none⟩ = false := (hg1.2.1 _).trans (by simp [go_sem])
  have c10 : w1.cell? ⟨w.heap.size + 1, 0, none⟩ = some (.int .i64 c) := grownSome hg1 (by simp [go_sem])
  have fc10 : w1.frozen? ⟨w.heap.size + 1, 0, none⟩ = false := (hg1.2.1 _).trans (by simp [go_sem])
  have c11 : w1.cell? ⟨w.heap.size + 1, 1, none⟩ = some (.int .i64 d) := grownSome hg1 (by simp [go_sem])
  have fc11 : w1.frozen? ⟨w.heap.size + 1, 1, none⟩ = false := (hg1.2.1 _).trans (by simp [go_sem])
  have c20 : w1.cell? ⟨w.heap.size + 1 + 1, 0, none⟩ = some (.int .i64 0) := grownSome hg1 (by simp [go_sem])
  have fc20 : w1.frozen? ⟨w.heap.size + 1 + 1, 0, none⟩ = false := (hg1.2.1 _).trans (by simp [go_sem])
  have c21 : w1.cell? ⟨w.heap.size + 1 + 1, 1, none⟩ = some (.int .i64 0) := grownSome hg1 (by simp [go_sem])
  have fc21 : w1.frozen? ⟨w.heap.size + 1 + 1, 1, none⟩ = false := (hg1.2.1 _).trans (by simp [go_sem])
  have c30 : w1.cell? ⟨w.heap.size + 1 + 1 + 1, 0, none⟩ = some (.int .i64 0) := grownSome hg1 (by simp [go_sem])
  have fc30 : w1.frozen? ⟨w.heap.size + 1 + 1 + 1, 0, none⟩ = false := (hg1.2.1 _).trans (by simp [go_sem])
  have c31 : w1.cell? ⟨w.heap.size + 1 + 1 + 1, 1, none⟩ = some (.int .i64 0) := grownSome hg1 (by simp [go_sem])
  have fc31 : w1.frozen? ⟨w.heap.size + 1 + 1 + 1, 1, none⟩ = false := (hg1.2.1 _).trans (by simp [go_sem])
  have G1 : Hid (Grown w w1) := Lib.hid (grownTrans (by go_grown) hg1)
  clear hg1
  have S0 : Hid (∀ (W' : World) (o : Nat) (v : Value), Grown w W' → Grown w (W'.setCell ⟨w.heap.size, o, none⟩ v)) := Lib.hid (fun W' o v h => h.setCell (by show w.heap.size ≤ w.heap.size; omega) v)
  have S1 : Hid (∀ (W' : World) (o : Nat) (v : Value), Grown w W' → Grown w (W'.setCell ⟨w.heap.size + 1, o, none⟩ v)) := Lib.hid (fun W' o v h => h.setCell (by show w.heap.size ≤ w.heap.size + 1; omega) v)
  have S2 : Hid (∀ (W' : World) (o : Nat) (v : Value), Grown w W' → Grown w (W'.setCell ⟨w.heap.size + 1 + 1, o, none⟩ v)) := Lib.hid (fun W' o v h => h.setCell (by show w.heap.size ≤ w.heap.size + 1 + 1; omega) v)
  have S3 : Hid (∀ (W' : World) (o : Nat) (v : Value), Grown w W' → Grown w (W'.setCell ⟨w.heap.size + 1 + 1 + 1, o, none⟩ v)) := Lib.hid (fun W' o v h => h.setCell (by show w.heap.size ≤ w.heap.size + 1 + 1 + 1; omega) v)
  have n01 : ¬ w.heap.size = w.heap.size + 1 := by omega
  have n02 : ¬ w.heap.size = w.heap.size + 1 + 1 := by omega
  have n03 : ¬ w.heap.size = w.heap.size + 1 + 1 + 1 := by omega
  have n10 : ¬ w.heap.size + 1 = w.heap.size := by omega
  have n12 : ¬ w.heap.size + 1 = w.heap.size + 1 + 1 := by omega
  have n13 : ¬ w.heap.size + 1 = w.heap.size + 1 + 1 + 1 := by omega
  have n20 : ¬ w.heap.size + 1 + 1 = w.heap.size := by omega
  have n21 : ¬ w.heap.size + 1 + 1 = w.heap.size + 1 := by omega
  have n23 : ¬ w.heap.size + 1 + 1 = w.heap.size + 1 + 1 + 1 := by omega
  have n30 : ¬ w.heap.size + 1 + 1 + 1 = w.heap.size := by omega
  have n31 : ¬ w.heap.size + 1 + 1 + 1 = w.heap.size + 1 := by omega
  have n32 : ¬ w.heap.size + 1 + 1 + 1 = w.heap.size + 1 + 1 := by omega
  generalize w.heap.size + 1 + 1 + 1 = B3 at *
  generalize w.heap.size + 1 + 1 = B2 at *
  generalize w.heap.size + 1 = B1 at *
  generalize w.heap.size = B0 at *
  go_wp2_with fail
  exact bodyPost_ret (v := .tuple #[.agg #[.int .i64 0, .int .i64 0], .agg #[.int .i64 0, .int .i64 0], .int .i64 120]) (by simp [results, Tryd.results51, go_sem, c20, c21, c30, c31]) rfl ⟨rfl, S3.out _ _ _ (S3.out _ _ _ (S2.out _ _ _ (S2.out _ _ _ (G1.out))))⟩

set_option maxHeartbeats 1000000 in
theorem order_le (a b c d s : Int) (w : World) (hT : Tab w) (HC : Hid (cmpF a b c d = (s, 0))) (hs : ¬ 0 < s) :
    Calls Tryd.prog 51 #[.agg #[.int .i64 a, .int .i64 b], .agg #[.int .i64 c, .int .i64 d]] w (Ends (a, b) (c, d) 0 w) := by
  have HT := Lib.hid hT
  clear hT
  go_enter Tryd.func51, Tryd.ntmps51
  go_wp2_with fail
  go_at_call 24
  refine (cmp_is a b c d (s, 0) _ (HT.out.grown (by go_grown)) HC.out).mono ?_
  rintro e w1 ⟨rfl, hg1⟩
  have c00 : w1.cell? ⟨w.heap.size, 0, none⟩ = some (.int .i64 a) := grownSome hg1 (by simp [go_sem])
  have fc00 : w1.frozen? ⟨w.heap.size, 0, none⟩ = false := (hg1.2.1 _).trans (by simp [go_sem])
  have c01 : w1.cell? ⟨w.heap.size, 1, none⟩ = some (.int .i64 b) := grownSome hg1 (by simp [go_sem])
  have fc01 : w1.frozen? ⟨w.heap.size, 1, none⟩ = false := (hg1.2.1 _).trans (by simp [go_sem])
  have c10 : w1.cell? ⟨w.heap.size + 1, 0, none⟩ = some (.int .i64 c) := grownSome hg1 (by simp [go_sem])
  have fc10 : w1.frozen? ⟨w.heap.size + 1, 0, none⟩ = false := (hg1.2.1 _).trans (by simp [go_sem])
  have c11 : w1.cell? ⟨w.heap.size + 1, 1, none⟩ = some (.int .i64 d) := grownSome hg1 (by simp [go_sem])
  have fc11 : w1.frozen? ⟨w.heap.size + 1, 1, none⟩ = false := (hg1.2.1 _).trans (by simp [go_sem])
  have c20 : w1.cell? ⟨w.heap.size + 1 + 1, 0, none⟩ = some (.int .i64 0) := grownSome hg1 (by simp [go_sem])
  have fc20 : w1.frozen? ⟨w.heap.size + 1 + 1, 0, none⟩ = false := (hg1.2.1 _).trans (by simp [go_sem])
  have c21 : w1.cell? ⟨w.heap.size + 1 + 1, 1, none⟩ = some (.int .i64 0) := grownSome hg1 (by simp [go_sem])
  have fc21 : w1.frozen? ⟨w.heap.size + 1 + 1, 1, none⟩ = false := (hg1.2.1 _).trans (by simp [go_sem])
  have c30 : w1.cell? ⟨w.heap.size + 1 + 1 + 1, 0, none⟩ = some (.int .i64 0) := grownSome hg1 (by simp [go_sem])
  have fc30 : w1.frozen? ⟨w.heap.size + 1 + 1 + 1, 0, none⟩ = false := (hg1.2.1 _).trans (by simp [go_sem])
  have c31 : w1.cell? ⟨w.heap.size + 1 + 1 + 1, 1, none⟩ = some (.int .i64 0) := grownSome hg1 (by simp [go_sem])
  have fc31 : w1.frozen? ⟨w.heap.size + 1 + 1 + 1, 1, none⟩ = false := (hg1.2.1 _).trans (by simp [go_sem])
  have G1 : Hid (Grown w w1) := Lib.hid (grownTrans (by go_grown) hg1)
  clear hg1
  have S0 : Hid (∀ (W' : World) (o : Nat) (v : Value), Grown w W' → Grown w (W'.setCell ⟨w.heap.size, o, none⟩ v)) := Lib.hid (fun W' o v h => h.setCell (by show w.heap.size ≤ w.heap.size; omega) v)
  have S1 : Hid (∀ (W' : World) (o : Nat) (v : Value), Grown w W' → Grown w (W'.setCell ⟨w.heap.size + 1, o, none⟩ v)) := Lib.hid (fun W' o v h => h.setCell (by show w.heap.size ≤ w.heap.size + 1; omega) v)
  have S2 : Hid (∀ (W' : World) (o : Nat) (v : Value), Grown w W' → Grown w (W'.setCell ⟨w.heap.size + 1 + 1, o, none⟩ v)) := Lib.hid (fun W' o v h => h.setCell (by show w.heap.size ≤ w.heap.size + 1 + 1; omega) v)
  have S3 : Hid (∀ (W' : World) (o : Nat) (v : Value), Grown w W' → Grown w (W'.setCell ⟨w.heap.size + 1 + 1 + 1, o, none⟩ v)) := Lib.hid (fun W' o v h => h.setCell (by show w.heap.size ≤ w.heap.size + 1 + 1 + 1; omega) v)
  have n01 : ¬ w.heap.size = w.heap.size + 1 := by omega
  have n02 : ¬ w.heap.size = w.heap.size + 1 + 1 := by omega
  have n03 : ¬ w.heap.size = w.heap.size + 1 + 1 + 1 := by omega
  have n10 : ¬ w.heap.size + 1 = w.heap.size := by omega
  have n12 : ¬ w.heap.size + 1 = w.heap.size + 1 + 1 := by omega
  have n13 : ¬ w.heap.size + 1 = w.heap.size + 1 + 1 + 1 := by omega
  have n20 : ¬ w.heap.size + 1 + 1 = w.heap.size := by omega
  have n21 : ¬ w.heap.size + 1 + 1 = w.heap.size + 1 := by omega
  have n23 : ¬ w.heap.size + 1 + 1 = w.heap.size + 1 + 1 + 1 := by omega
  have n30 : ¬ w.heap.size + 1 + 1 + 1 = w.heap.size := by omega
  have n31 : ¬ w.heap.size + 1 + 1 + 1 = w.heap.size + 1 := by omega
  have n32 : ¬ w.heap.size + 1 + 1 + 1 = w.heap.size + 1 + 1 := by omega
  generalize w.heap.size + 1 + 1 + 1 = B3 at *
  generalize w.heap.size + 1 + 1 = B2 at *
  generalize w.heap.size + 1 = B1 at *
  generalize w.heap.size = B0 at *
  go_wp2_with fail
  go_region
  go_wp2_with fail
  exact bodyPost_ret (v := .tuple #[.agg #[.int .i64 a, .int .i64 b], .agg #[.int .i64 c, .int .i64 d], .int .i64 0]) (by simp [results, Tryd.results51, go_sem, c20, c21, c30, c31]) rfl ⟨rfl, (S3.out _ _ _ (S3.out _ _ _ (S2.out _ _ _ (S2.out _ _ _ (G1.out))))).drew⟩

set_option maxHeartbeats 1000000 in
theorem order_gt (a b c d s : Int) (w : World) (hT : Tab w) (HC : Hid (cmpF a b c d = (s, 0))) (hs : 0 < s) :
    Calls Tryd.prog 51 #[.agg #[.int .i64 a, .int .i64 b], .agg #[.int .i64 c, .int .i64 d]] w (Ends (c, d) (a, b) 0 w) := by
  have HT := Lib.hid hT
  clear hT
  go_enter Tryd.func51, Tryd.ntmps51
  go_wp2_with fail
  go_at_call 24
  refine (cmp_is a b c d (s, 0) _ (HT.out.grown (by go_grown)) HC.out).mono ?_
  rintro e w1 ⟨rfl, hg1⟩
  have c00 : w1.cell? ⟨w.heap.size, 0, none⟩ = some (.int .i64 a) := grownSome hg1 (by simp [go_sem])
  have fc00 : w1.frozen? ⟨w.heap.size, 0, none⟩ = false := (hg1.2.1 _).trans (by simp [go_sem])
  have c01 : w1.cell? ⟨w.heap.size, 1, none⟩ = some (.int .i64 b) := grownSome hg1 (by simp [go_sem])
  have fc01 : w1.frozen? ⟨w.heap.size, 1, none⟩ = false := (hg1.2.1 _).trans (by simp [go_sem])
  have c10 : w1.cell? ⟨w.heap.size + 1, 0, none⟩ = some (.int .i64 c) := grownSome hg1 (by simp [go_sem])
  have fc10 : w1.frozen? ⟨w.heap.size + 1, 0, none⟩ = false := (hg1.2.1 _).trans (by simp [go_sem])
  have c11 : w1.cell? ⟨w.heap.size + 1, 1, none⟩ = some (.int .i64 d) := grownSome hg1 (by simp [go_sem])
  have fc11 : w1.frozen? ⟨w.heap.size + 1, 1, none⟩ = false := (hg1.2.1 _).trans (by simp [go_sem])
  have c20 : w1.cell? ⟨w.heap.size + 1 + 1, 0, none⟩ = some (.int .i64 0) := grownSome hg1 (by simp [go_sem])
  have fc20 : w1.frozen? ⟨w.heap.size + 1 + 1, 0, none⟩ = false := (hg1.2.1 _).trans (by simp [go_sem])
  have c21 : w1.cell? ⟨w.heap.size + 1 + 1, 1, none⟩ = some (.int .i64 0) := grownSome hg1 (by simp [go_sem])
  have fc21 : w1.frozen? ⟨w.heap.size + 1 + 1, 1, none⟩ = false := (hg1.2.1 _).trans (by simp [go_sem])
  have c30 : w1.cell? ⟨w.heap.size + 1 + 1 + 1, 0, none⟩ = some (.int .i64 0) := grownSome hg1 (by simp [go_sem])
  have fc30 : w1.frozen? ⟨w.heap.size + 1 + 1 + 1, 0, none⟩ = false := (hg1.2.1 _).trans (by simp [go_sem])
  have c31 : w1.cell? ⟨w.heap.size + 1 + 1 + 1, 1, none⟩ = some (.int .i64 0) := grownSome hg1 (by simp [go_sem])
  have fc31 : w1.frozen? ⟨w.heap.size + 1 + 1 + 1, 1, none⟩ = false := (hg1.2.1 _).trans (by simp [go_sem])
  have G1 : Hid (Grown w w1) := Lib.hid (grownTrans (by go_grown) hg1)
  clear hg1
  have S0 : Hid (∀ (W' : World) (o : Nat) (v : Value), Grown w W' → Grown w (W'.setCell ⟨w.heap.size, o, none⟩ v)) := Lib.hid (fun W' o v h => h.setCell (by show w.heap.size ≤ w.heap.size; omega) v)
  have S1 : Hid (∀ (W' : World) (o : Nat) (v : Value), Grown w W' → Grown w (W'.setCell ⟨w.heap.size + 1, o, none⟩ v)) := Lib.hid (fun W' o v h => h.setCell (by show w.heap.size ≤ w.heap.size + 1; omega) v)
  have S2 : Hid (∀ (W' : World) (o : Nat) (v : Value), Grown w W' → Grown w (W'.setCell ⟨w.heap.size + 1 + 1, o, none⟩ v)) := Lib.hid (fun W' o v h => h.setCell (by show w.heap.size ≤ w.heap.size + 1 + 1; omega) v)
  have S3 : Hid (∀ (W' : World) (o : Nat) (v : Value), Grown w W' → Grown w (W'.setCell ⟨w.heap.size + 1 + 1 + 1, o, none⟩ v)) := Lib.hid (fun W' o v h => h.setCell (by show w.heap.size ≤ w.heap.size + 1 + 1 + 1; omega) v)
  have n01 : ¬ w.heap.size = w.heap.size + 1 := by omega
  have n02 : ¬ w.heap.size = w.heap.size + 1 + 1 := by omega
  have n03 : ¬ w.heap.size = w.heap.size + 1 + 1 + 1 := by omega
  have n10 : ¬ w.heap.size + 1 = w.heap.size := by omega
  have n12 : ¬ w.heap.size + 1 = w.heap.size + 1 + 1 := by omega
  have n13 : ¬ w.heap.size + 1 = w.heap.size + 1 + 1 + 1 := by omega
  have n20 : ¬ w.heap.size + 1 + 1 = w.heap.size := by omega
  have n21 : ¬ w.heap.size + 1 + 1 = w.heap.size + 1 := by omega
  have n23 : ¬ w.heap.size + 1 + 1 = w.heap.size + 1 + 1 + 1 := by omega
  have n30 : ¬ w.heap.size + 1 + 1 + 1 = w.heap.size := by omega
  have n31 : ¬ w.heap.size + 1 + 1 + 1 = w.heap.size + 1 := by omega
  have n32 : ¬ w.heap.size + 1 + 1 + 1 = w.heap.size + 1 + 1 := by omega
  generalize w.heap.size + 1 + 1 + 1 = B3 at *
  generalize w.heap.size + 1 + 1 = B2 at *
  generalize w.heap.size + 1 = B1 at *
  generalize w.heap.size = B0 at *
  go_wp2_with fail
  go_region
  go_wp2_with fail
  exact bodyPost_ret (v := .tuple #[.agg #[.int .i64 c, .int .i64 d], .agg #[.int .i64 a, .int .i64 b], .int .i64 0]) (by simp [results, Tryd.results51, go_sem, c20, c21, c30, c31]) rfl ⟨rfl, (S3.out _ _ _ (S3.out _ _ _ (S2.out _ _ _ (S2.out _ _ _ (S1.out _ _ _ (S1.out _ _ _ (S0.out _ _ _ (S0.out _ _ _ (G1.out))))))))).drew⟩

theorem orderF_no {a b c d : Int} (h : okB a b c d = false) : orderF a b c d = ((0, 0), (0, 0), 120) := by unfold orderF; rw [if_neg (by rw [h]; simp)]
theorem orderF_yes {a b c d : Int} (h : okB a b c d = true) : orderF a b c d = if cmpI a b c d = 1 then ((c, d), (a, b), 0) else ((a, b), (c, d), 0) := by unfold orderF; rw [if_pos h]

/-- 'e' is two fractions and an error, and the world has only grown. -/
def EndsF (r : (Int × Int) × (Int × Int) × Int) (w : World) (e : Ending) (w' : World) : Prop := Ends r.1 r.2.1 r.2.2 w e w'

theorem order_any (a b c d : Int) (w : World) (hT : Tab w) : Calls Tryd.prog 51 #[.agg #[.int .i64 a, .int .i64 b], .agg #[.int .i64 c, .int .i64 d]] w (EndsF (orderF a b c d) w) := by
  cases h : okB a b c d with
  | false =>
    rw [orderF_no h]
    exact order_no a b c d 0 w hT (Lib.hid (cmpF_no h))
  | true =>
    rw [orderF_yes h]
    have e := cmpF_yes h
    by_cases h1 : cmpI a b c d = 1
    · rw [if_pos h1]
      rw [h1] at e
      exact order_gt a b c d 1 w hT (Lib.hid e) (by omega)
    · rw [if_neg h1]
      exact order_le a b c d _ w hT (Lib.hid e) (by rcases cmp_cases a b c d with ⟨_, h2⟩ | ⟨_, h2⟩ | ⟨_, h2⟩ <;> omega)

theorem order_is (a b c d x1 x2 x3 x4 z : Int) (w : World) (hT : Tab w) (h : orderF a b c d = ((x1, x2), (x3, x4), z)) :
    Calls Tryd.prog 51 #[.agg #[.int .i64 a, .int .i64 b], .agg #[.int .i64 c, .int .i64 d]] w (Ends (x1, x2) (x3, x4) z w) := by
  have := order_any a b c d w hT
  rw [h] at this
  exact this

end Go.Proofs.YtiibpdameldblaaDoor
