/- What slow, ceilMulDiv and crossing of the package curve return, in worlds that have only grown and whose tape is as it was. -/
import Derived.Test.YtmamadgikjkjdaaServe
import Derived.Test.YtmamadgikjkjdaaSum
namespace Go.Proofs.Ytmamadgikjkjdaa
open Go Go.RowKit

theorem allocT (w : World) (c : Array Value) (t : TypeId) : GrownT w (w.alloc (.cells c t)) := ⟨by go_grown, by simp⟩
theorem grownByT {w w' : World} (h : GrownT w w') : w.grownBy w' none := by
  have k := keepOf h.1
  exact ⟨k.os, h.2, k.output, k.size, fun i hi _ => k.block i hi⟩
theorem belowT {w w' : World} {n : Nat} (h : GrownT w w') (hn : n ≤ w.heap.size) : Below n w w' :=
  (Below.refl n w).grown (grownByT h) hn (fun k e => by cases e)

set_option maxRecDepth 100000 in
theorem slow_t (B S R : Int) (b : Bool) (w : World) (H : Hid (decide (S ≤ R) = b)) : Calls Try.prog 79 #[.agg #[.int .i64 B, .int .i64 S], .int .i64 R] w fun e w' => e = .returned (.bool b) ∧ GrownT w w' := by
  by_cases h : S ≤ R
  · obtain rfl : b = true := by rw [← H.out]; simp [h]
    clear H
    go_enter Try.func79, Try.ntmps79
    go_wp2
    go_ret
    exact ⟨rfl, allocT _ _ _⟩
  · obtain rfl : b = false := by rw [← H.out]; simp [h]
    clear H
    have h' : R < S := by omega
    go_enter Try.func79, Try.ntmps79
    go_wp2
    go_ret
    exact ⟨rfl, allocT _ _ _⟩

theorem mulDiv_t (a b c q : Int) (f : Bool) (w : World) (H : Hid (mulDivS a b c = (q, f))) : Calls Try.prog 49 #[.int .i64 a, .int .i64 b, .int .i64 c] w fun e w' => e = .returned (.tuple #[.int .i64 q, .bool f]) ∧ GrownT w w' := by
  have := mulDiv_any a b c w
  rw [H.out] at this
  exact this
set_option maxRecDepth 100000 in
theorem ceilMulDiv_t (a b c q : Int) (w : World) (ha : 0 ≤ a ∧ a ≤ 1125899906842624) (hb : 0 ≤ b ∧ b ≤ 1125899906842624) (hc : 1 ≤ c ∧ c ≤ 1125899906842624) (hq : q ≤ 1125899906842624) (H : Hid (ceilD (a * b) c = q)) :
    Calls Try.prog 81 #[.int .i64 a, .int .i64 b, .int .i64 c] w fun e w' => e = .returned (.int .i64 q) ∧ GrownT w w' := by
  have hq0 : 0 ≤ q := by rw [← H.out]; exact ceilD_nonneg (by omega) (Int.mul_nonneg ha.1 hb.1)
  have HM : Hid (mulDivS (-a) b c = (-q, true)) := Lib.hid (by rw [ceilMulDiv_eq ha hb hc (by rw [H.out]; exact hq), H.out])
  clear H
  go_enter Try.func81, Try.ntmps81
  go_wp2_with (go_at_call 49; ((with_reducible refine (mulDiv_t (-a) b c (-q) true _ HM).mono ?_); rintro e w1 ⟨rfl, k1⟩))
  go_ret
  exact ⟨by simp, k1⟩

/-- The distance where the limits of a fast and a slow bucket cross, rounded up. -/
def crossD (Ba Sa Bb Sb R : Int) : Int := ceilD (((Sa - R) * Bb + (R - Sb) * Ba) * 1048576) (R * (Sa - Sb))
theorem cross_num {Ba Sa Bb Sb R : Int} (h2 : Sb ≤ R) (h3 : Ba ≤ Bb) : (Sa - R) * Bb + (R - Sb) * Ba ≤ (Sa - Sb) * Bb := by
  have : (R - Sb) * Ba ≤ (R - Sb) * Bb := Int.mul_le_mul_of_nonneg_left h3 (by omega)
  have e : (Sa - R) * Bb + (R - Sb) * Bb = (Sa - Sb) * Bb := by rw [← Int.add_mul]; congr 1; omega
  omega
theorem cross_le {Ba Sa Bb Sb R : Int} (hR : 1 ≤ R) (h1 : R < Sa) (h2 : Sb ≤ R) (h3 : Ba ≤ Bb) : crossD Ba Sa Bb Sb R ≤ ceilD (Bb * 1048576) R := by
  unfold crossD
  have hd : 0 < Sa - Sb := by omega
  have hn := cross_num (Sa := Sa) h2 h3
  have hq := le_ceilD (n := Bb * 1048576) (d := R) (by omega)
  generalize ceilD (Bb * 1048576) R = q at *
  refine ceilD_le (Int.mul_pos (by omega) hd) ?_
  have a1 : ((Sa - R) * Bb + (R - Sb) * Ba) * 1048576 ≤ (Sa - Sb) * Bb * 1048576 := Int.mul_le_mul_of_nonneg_right hn (by omega)
  have a2 : (Sa - Sb) * (Bb * 1048576) ≤ (Sa - Sb) * (q * R) := Int.mul_le_mul_of_nonneg_left hq (by omega)
  have e1 : (Sa - Sb) * Bb * 1048576 = (Sa - Sb) * (Bb * 1048576) := Int.mul_assoc _ _ _
  have e2 : q * (R * (Sa - Sb)) = (Sa - Sb) * (q * R) := by grind
  omega
theorem cross_nonneg {Ba Sa Bb Sb R : Int} (hR : 1 ≤ R) (h1 : R < Sa) (h2 : Sb ≤ R) (h3 : 0 ≤ Ba) (h4 : 0 ≤ Bb) : 0 ≤ crossD Ba Sa Bb Sb R :=
  ceilD_nonneg (Int.mul_pos (by omega) (by omega)) (Int.mul_nonneg (Int.add_nonneg (Int.mul_nonneg (by omega) h4) (Int.mul_nonneg (by omega) h3)) (by omega))
theorem slowD_le {B R : Int} (hR : 1 ≤ R) (hB : B ≤ 1048576) : ceilD (B * 1048576) R ≤ 1099511627776 := ceilD_le (by omega) (by have : 1099511627776 * 1 ≤ 1099511627776 * R := Int.mul_le_mul_of_nonneg_left hR (by omega); omega)

theorem prod_bd {x y X Y : Int} (hx : 0 ≤ x) (hX : x ≤ X) (hy : 0 ≤ y) (hY : y ≤ Y) : 0 ≤ x * y ∧ x * y ≤ X * Y :=
  ⟨Int.mul_nonneg hx hy, Int.mul_le_mul hX hY hy (by omega)⟩
set_option maxRecDepth 100000 in
theorem crossing_t (Ba Sa Bb Sb R q : Int) (w : World) (hBa : 1 ≤ Ba ∧ Ba ≤ 1048576) (hSa : 1 ≤ Sa ∧ Sa ≤ 2097152) (hBb : 1 ≤ Bb ∧ Bb ≤ 1048576) (hSb : 1 ≤ Sb ∧ Sb ≤ 2097152) (hR : 1 ≤ R ∧ R ≤ 2097152) (h1 : R < Sa) (h2 : Sb ≤ R) (h3 : Ba ≤ Bb) (H : Hid (crossD Ba Sa Bb Sb R = q)) :
    Calls Try.prog 86 #[.agg #[.int .i64 Ba, .int .i64 Sa], .agg #[.int .i64 Bb, .int .i64 Sb], .int .i64 R] w fun e w' => e = .returned (.int .i64 q) ∧ GrownT w w' := by
  have hq : q ≤ 1125899906842624 := by
    have := cross_le (Ba := Ba) (Bb := Bb) hR.1 h1 h2 h3
    have := slowD_le (B := Bb) hR.1 hBb.2
    rw [H.out] at *; omega
  have g0 := grownTTrans (allocT w #[.int .i64 Ba, .int .i64 Sa] 30) (allocT _ #[.int .i64 Bb, .int .i64 Sb] 30)
  obtain ⟨D1, hD1⟩ : ∃ D1, Sa - R = D1 := ⟨_, rfl⟩
  obtain ⟨D2, hD2⟩ : ∃ D2, R - Sb = D2 := ⟨_, rfl⟩
  obtain ⟨D3, hD3⟩ : ∃ D3, Sa - Sb = D3 := ⟨_, rfl⟩
  have bD1 : 0 ≤ D1 ∧ D1 ≤ 2097152 := by omega
  have bD2 : 0 ≤ D2 ∧ D2 ≤ 2097152 := by omega
  have bD3 : 1 ≤ D3 ∧ D3 ≤ 2097152 := by omega
  have p1 := prod_bd bD1.1 bD1.2 (show 0 ≤ Bb by omega) hBb.2
  have p2 := prod_bd bD2.1 bD2.2 (show 0 ≤ Ba by omega) hBa.2
  have p3 := prod_bd (show 0 ≤ R by omega) hR.2 (show 0 ≤ D3 by omega) bD3.2
  have p4 : 1 ≤ R * D3 := by have := Int.mul_pos (show 0 < R by omega) (show 0 < D3 by omega); omega
  unfold crossD at H
  rw [hD1, hD2, hD3] at H
  obtain ⟨P1, hP1⟩ : ∃ P1, D1 * Bb = P1 := ⟨_, rfl⟩
  obtain ⟨P2, hP2⟩ : ∃ P2, D2 * Ba = P2 := ⟨_, rfl⟩
  obtain ⟨M, hM⟩ : ∃ M, R * D3 = M := ⟨_, rfl⟩
  rw [hP1] at H p1
  rw [hP2] at H p2
  rw [hM] at H p3 p4
  obtain ⟨N, hN⟩ : ∃ N, P1 + P2 = N := ⟨_, rfl⟩
  rw [hN] at H
  have bN : 0 ≤ N ∧ N ≤ 4398046511104 := by omega
  have bM : 1 ≤ M ∧ M ≤ 4398046511104 := by omega
  clear p4
  go_enter Try.func86, Try.ntmps86
  go_wp2_with (go_at_call 81; ((with_reducible refine (ceilMulDiv_t N 1048576 M q _ (by omega) (by omega) (by omega) hq H).mono ?_); rintro e w1 ⟨rfl, k1⟩))
  go_ret
  exact ⟨rfl, grownTTrans g0 k1⟩

end Go.Proofs.Ytmamadgikjkjdaa
