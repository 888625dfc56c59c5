/- What Make of the reference returns. -/
import Derived.Test.YtiibpdameldblaaDoorBoth
import Derived.Test.YtiibpdameldblaaDoorMake
import Derived.RegionTactic
namespace Go.Proofs.YtiibpdameldblaaDoor
open Go Go.RowKit

theorem refmake_zero (n : Int) (w : World) : Calls Tryd.prog 11 #[.int .i64 n, .int .i64 0] w (Frac (0, 0, 2) w) := by
  go_enter Tryd.func11, Tryd.ntmps11
  go_wp2
  exact bodyPost_ret (v := .tuple #[.agg #[.int .i64 0, .int .i64 0], .int .i64 2]) (by simp [results, Tryd.results11, go_sem]) rfl ⟨rfl, by go_grown⟩

theorem refmake_big (n d : Int) (w : World) (h0 : (d == 0) = false) (H : (inW 4611686018427387904 n && inW 4611686018427387904 d) = false) : Calls Tryd.prog 11 #[.int .i64 n, .int .i64 d] w (Frac (0, 0, 6) w) := by
  have h : (4611686018427387904 < n) ∨ (¬ 4611686018427387904 < n ∧ n < -4611686018427387904) ∨ (¬ 4611686018427387904 < n ∧ ¬ n < -4611686018427387904 ∧ 4611686018427387904 < d) ∨ (¬ 4611686018427387904 < n ∧ ¬ n < -4611686018427387904 ∧ ¬ 4611686018427387904 < d ∧ d < -4611686018427387904) := by
    cases a : inW 4611686018427387904 n <;> cases b : inW 4611686018427387904 d <;> simp [a, b] at H <;> simp [inW_no, inW_iff] at a b <;> omega
  clear H
  rcases h with h | h | h | h
  all_goals
    go_enter Tryd.func11, Tryd.ntmps11
    go_wp2
    exact bodyPost_ret (v := .tuple #[.agg #[.int .i64 0, .int .i64 0], .int .i64 6]) (by simp [results, Tryd.results11, go_sem]) rfl ⟨rfl, by go_grown⟩

theorem refmake_pos (n d A g p q : Int) (w : World) (h0 : 0 < d) (hn : -4611686018427387904 ≤ n ∧ n ≤ 4611686018427387904) (hd : d ≤ 4611686018427387904) (HA : Hid ((n.natAbs : Int) = A)) (hA0 : 0 ≤ A ∧ A ≤ 4611686018427387904)
    (hg1 : 1 ≤ g) (HG : Hid ((A.toNat.gcd d.toNat : Int) = g)) (P : IntKind.i64.wrap (n.tdiv g) = p) (Q : IntKind.i64.wrap (d.tdiv g) = q) (b : Bool) (HB : Hid (okR p q = b)) :
    Calls Tryd.prog 11 #[.int .i64 n, .int .i64 d] w (Frac (if b = true then (p, q, 0) else (0, 0, 6)) w) := by
  have z : (d == 0) = false := by simp; omega
  have gz : ¬ g = 0 := by omega
  have gz' : (g == 0) = false := by simp; omega
  cases b with
  | true =>
    rw [if_pos rfl]
    go_enter Tryd.func11, Tryd.ntmps11
    go_wp2_with (first | (go_at_call 40; ((with_reducible refine (refabs_any n _ (by omega) A HA).mono ?_); rintro e w' ⟨rfl, rfl⟩)) | (go_at_call 39; ((with_reducible refine (refgcd_any A d g _ hA0 (by omega) HG).mono ?_); rintro e w' ⟨rfl, nq, rfl⟩)))
    go_region
    go_wp2_with (go_at_call 41; ((with_reducible refine (right_is p q true _ HB.out).mono ?_); rintro e w1 ⟨rfl, hg1⟩; have c2 : w1.cell? ⟨w.heap.size + 1, 0, none⟩ = some (.int .i64 p) := grownSome hg1 (by simp [go_sem]); have c3 : w1.cell? ⟨w.heap.size + 1, 1, none⟩ = some (.int .i64 q) := grownSome hg1 (by simp [go_sem]); have c0 : w1.cell? ⟨w.heap.size, 0, none⟩ = some (.int .i64 0) := grownSome hg1 (by simp [go_sem]); have c1 : w1.cell? ⟨w.heap.size, 1, none⟩ = some (.int .i64 0) := grownSome hg1 (by simp [go_sem]); have f0 : w1.frozen? ⟨w.heap.size, 0, none⟩ = false := (hg1.2.1 _).trans (by simp [go_sem]); have f1 : w1.frozen? ⟨w.heap.size, 1, none⟩ = false := (hg1.2.1 _).trans (by simp [go_sem])))
    exact bodyPost_ret (v := .tuple #[.agg #[.int .i64 p, .int .i64 q], .int .i64 0]) (by simp [results, Tryd.results11, go_sem, c0, c1]) rfl ⟨rfl, ((grownTrans (Grown.alloc (grownDrewN (by go_grown) _) _ _) hg1).setCell (Nat.le_refl _) _).setCell (Nat.le_refl _) _⟩
  | false =>
    rw [if_neg (by simp)]
    go_enter Tryd.func11, Tryd.ntmps11
    go_wp2_with (first | (go_at_call 40; ((with_reducible refine (refabs_any n _ (by omega) A HA).mono ?_); rintro e w' ⟨rfl, rfl⟩)) | (go_at_call 39; ((with_reducible refine (refgcd_any A d g _ hA0 (by omega) HG).mono ?_); rintro e w' ⟨rfl, nq, rfl⟩)))
    go_region
    go_wp2_with (go_at_call 41; ((with_reducible refine (right_is p q false _ HB.out).mono ?_); rintro e w1 ⟨rfl, hg1⟩; have c2 : w1.cell? ⟨w.heap.size + 1, 0, none⟩ = some (.int .i64 p) := grownSome hg1 (by simp [go_sem]); have c3 : w1.cell? ⟨w.heap.size + 1, 1, none⟩ = some (.int .i64 q) := grownSome hg1 (by simp [go_sem]); have c0 : w1.cell? ⟨w.heap.size, 0, none⟩ = some (.int .i64 0) := grownSome hg1 (by simp [go_sem]); have c1 : w1.cell? ⟨w.heap.size, 1, none⟩ = some (.int .i64 0) := grownSome hg1 (by simp [go_sem]); have f0 : w1.frozen? ⟨w.heap.size, 0, none⟩ = false := (hg1.2.1 _).trans (by simp [go_sem]); have f1 : w1.frozen? ⟨w.heap.size, 1, none⟩ = false := (hg1.2.1 _).trans (by simp [go_sem])))
    exact bodyPost_ret (v := .tuple #[.agg #[.int .i64 0, .int .i64 0], .int .i64 6]) (by simp [results, Tryd.results11, go_sem, c0, c1]) rfl ⟨rfl, ((grownTrans (Grown.alloc (grownDrewN (by go_grown) _) _ _) hg1).setCell (Nat.le_refl _) _).setCell (Nat.le_refl _) _⟩

theorem refmake_neg (n d A g p q : Int) (w : World) (h0 : d < 0) (hn : -4611686018427387904 ≤ n ∧ n ≤ 4611686018427387904) (hd : -4611686018427387904 ≤ d) (HA : Hid (((-n).natAbs : Int) = A)) (hA0 : 0 ≤ A ∧ A ≤ 4611686018427387904)
    (hg1 : 1 ≤ g) (HG : Hid ((A.toNat.gcd (-d).toNat : Int) = g)) (P : IntKind.i64.wrap ((-n).tdiv g) = p) (Q : IntKind.i64.wrap ((-d).tdiv g) = q) (b : Bool) (HB : Hid (okR p q = b)) :
    Calls Tryd.prog 11 #[.int .i64 n, .int .i64 d] w (Frac (if b = true then (p, q, 0) else (0, 0, 6)) w) := by
  have z : (d == 0) = false := by simp; omega
  have gz : ¬ g = 0 := by omega
  have gz' : (g == 0) = false := by simp; omega
  have P' : IntKind.i64.wrap (-(n.tdiv g)) = p := by rw [← Int.neg_tdiv]; exact P
  have Q' : IntKind.i64.wrap (-(d.tdiv g)) = q := by rw [← Int.neg_tdiv]; exact Q
  cases b with
  | true =>
    rw [if_pos rfl]
    go_enter Tryd.func11, Tryd.ntmps11
    go_wp2_with (first | (go_at_call 40; ((with_reducible refine (refabs_any (-n) _ (by omega) A HA).mono ?_); rintro e w' ⟨rfl, rfl⟩)) | (go_at_call 39; ((with_reducible refine (refgcd_any A (-d) g _ hA0 (by omega) HG).mono ?_); rintro e w' ⟨rfl, nq, rfl⟩)))
    go_region
    go_wp2_with (go_at_call 41; ((with_reducible refine (right_is p q true _ HB.out).mono ?_); rintro e w1 ⟨rfl, hg1⟩; have c2 : w1.cell? ⟨w.heap.size + 1, 0, none⟩ = some (.int .i64 p) := grownSome hg1 (by simp [go_sem]); have c3 : w1.cell? ⟨w.heap.size + 1, 1, none⟩ = some (.int .i64 q) := grownSome hg1 (by simp [go_sem]); have c0 : w1.cell? ⟨w.heap.size, 0, none⟩ = some (.int .i64 0) := grownSome hg1 (by simp [go_sem]); have c1 : w1.cell? ⟨w.heap.size, 1, none⟩ = some (.int .i64 0) := grownSome hg1 (by simp [go_sem]); have f0 : w1.frozen? ⟨w.heap.size, 0, none⟩ = false := (hg1.2.1 _).trans (by simp [go_sem]); have f1 : w1.frozen? ⟨w.heap.size, 1, none⟩ = false := (hg1.2.1 _).trans (by simp [go_sem])))
    exact bodyPost_ret (v := .tuple #[.agg #[.int .i64 p, .int .i64 q], .int .i64 0]) (by simp [results, Tryd.results11, go_sem, c0, c1]) rfl ⟨rfl, ((grownTrans (Grown.alloc (grownDrewN (by go_grown) _) _ _) hg1).setCell (Nat.le_refl _) _).setCell (Nat.le_refl _) _⟩
  | false =>
    rw [if_neg (by simp)]
    go_enter Tryd.func11, Tryd.ntmps11
    go_wp2_with (first | (go_at_call 40; ((with_reducible refine (refabs_any (-n) _ (by omega) A HA).mono ?_); rintro e w' ⟨rfl, rfl⟩)) | (go_at_call 39; ((with_reducible refine (refgcd_any A (-d) g _ hA0 (by omega) HG).mono ?_); rintro e w' ⟨rfl, nq, rfl⟩)))
    go_region
    go_wp2_with (go_at_call 41; ((with_reducible refine (right_is p q false _ HB.out).mono ?_); rintro e w1 ⟨rfl, hg1⟩; have c2 : w1.cell? ⟨w.heap.size + 1, 0, none⟩ = some (.int .i64 p) := grownSome hg1 (by simp [go_sem]); have c3 : w1.cell? ⟨w.heap.size + 1, 1, none⟩ = some (.int .i64 q) := grownSome hg1 (by simp [go_sem]); have c0 : w1.cell? ⟨w.heap.size, 0, none⟩ = some (.int .i64 0) := grownSome hg1 (by simp [go_sem]); have c1 : w1.cell? ⟨w.heap.size, 1, none⟩ = some (.int .i64 0) := grownSome hg1 (by simp [go_sem]); have f0 : w1.frozen? ⟨w.heap.size, 0, none⟩ = false := (hg1.2.1 _).trans (by simp [go_sem]); have f1 : w1.frozen? ⟨w.heap.size, 1, none⟩ = false := (hg1.2.1 _).trans (by simp [go_sem])))
    exact bodyPost_ret (v := .tuple #[.agg #[.int .i64 0, .int .i64 0], .int .i64 6]) (by simp [results, Tryd.results11, go_sem, c0, c1]) rfl ⟨rfl, ((grownTrans (Grown.alloc (grownDrewN (by go_grown) _) _ _) hg1).setCell (Nat.le_refl _) _).setCell (Nat.le_refl _) _⟩

theorem makeP_ref' (n d : Int) (h : 0 < d) (p q : Int) (hp : n / gcdI n d = p) (hq : d / gcdI n d = q) (b : Bool) (hb : okR p q = b) : makeP n d = if b = true then (p, q, 0) else (0, 0, 6) := by
  subst hp hq hb
  exact makeP_ref n d h

theorem refmake_any (n d : Int) (w : World) : Calls Tryd.prog 11 #[.int .i64 n, .int .i64 d] w (Frac (makeS n d) w) := by
  unfold makeS
  by_cases h0 : d = 0
  · subst h0
    rw [if_pos rfl]
    exact refmake_zero n w
  · rw [if_neg h0]
    by_cases h1 : inW 4611686018427387904 n = true ∧ inW 4611686018427387904 d = true
    · rw [if_pos h1]
      have b1 := (inW_iff _ _).1 h1.1
      have b2 := (inW_iff _ _).1 h1.2
      by_cases h2 : d < 0
      · rw [if_pos h2]
        obtain ⟨g1, g2, p, q⟩ := make_nums (-n) (-d) (by omega) (by omega) (by omega)
        rw [makeP_ref' (-n) (-d) (by omega) _ _ rfl rfl _ rfl]
        exact refmake_neg n d _ _ _ _ w h2 b1 b2.1 (Lib.hid rfl) (by omega) g1 (Lib.hid g2) p q _ (Lib.hid rfl)
      · rw [if_neg h2]
        obtain ⟨g1, g2, p, q⟩ := make_nums n d (by omega) (by omega) (by omega)
        rw [makeP_ref' n d (by omega) _ _ rfl rfl _ rfl]
        exact refmake_pos n d _ _ _ _ w (by omega) b1 b2.2 (Lib.hid rfl) (by omega) g1 (Lib.hid g2) p q _ (Lib.hid rfl)
    · rw [if_neg h1]
      exact refmake_big n d w (by simp [h0]) (by rw [← Bool.not_eq_true, ← andB]; exact h1)

theorem refmake_is (n d : Int) (r : Int × Int × Int) (h : makeS n d = r) (w : World) : Calls Tryd.prog 11 #[.int .i64 n, .int .i64 d] w (Frac r w) := h ▸ refmake_any n d w

end Go.Proofs.YtiibpdameldblaaDoor
