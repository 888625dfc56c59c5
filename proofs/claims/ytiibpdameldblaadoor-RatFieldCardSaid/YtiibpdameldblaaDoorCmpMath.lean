/- Plain arithmetic of the order of fractions. Nothing is said of the program here. -/
import Derived.Test.YtiibpdameldblaaDoorRMath
namespace Go.Proofs.YtiibpdameldblaaDoor

/-- Fractions in lowest terms are equal exactly if their cross products are. -/
theorem cross_eq {a b c d : Int} (h1 : okR a b = true) (h2 : okR c d = true) (h : a * d = c * b) : a = c ∧ b = d := by
  rw [okR_iff] at h1 h2
  obtain ⟨b1, _, _, _, g1⟩ := h1
  obtain ⟨d1, _, _, _, g2⟩ := h2
  unfold gcdI at g1 g2
  have g1' : Nat.Coprime b.natAbs a.natAbs := by unfold Nat.Coprime; rw [Nat.gcd_comm]; omega
  have g2' : Nat.Coprime d.natAbs c.natAbs := by unfold Nat.Coprime; rw [Nat.gcd_comm]; omega
  have hn : a.natAbs * d.natAbs = c.natAbs * b.natAbs := by rw [← Int.natAbs_mul, ← Int.natAbs_mul, h]
  have e1 : b.natAbs ∣ d.natAbs := g1'.dvd_of_dvd_mul_left ⟨c.natAbs, by rw [hn, Nat.mul_comm]⟩
  have e2 : d.natAbs ∣ b.natAbs := g2'.dvd_of_dvd_mul_left ⟨a.natAbs, by rw [← hn, Nat.mul_comm]⟩
  have e := Nat.dvd_antisymm e1 e2
  have e' : b = d := by omega
  subst e'
  exact ⟨Int.eq_of_mul_eq_mul_right (by omega) h, rfl⟩

theorem okB_and {a b c d : Int} (h : okB a b c d = true) : okR a b = true ∧ okR c d = true := by
  unfold okB at h; simpa using h

theorem cmp_cases (a b c d : Int) : (a * d < c * b ∧ cmpI a b c d = -1) ∨ (a * d = c * b ∧ cmpI a b c d = 0) ∨ (c * b < a * d ∧ cmpI a b c d = 1) := by
  unfold cmpI
  rcases Int.lt_trichotomy (a * d) (c * b) with h | h | h
  · exact Or.inl ⟨h, if_pos h⟩
  · exact Or.inr (Or.inl ⟨h, by rw [if_neg (by omega), if_pos h]⟩)
  · exact Or.inr (Or.inr ⟨h, by rw [if_neg (by omega), if_neg (by omega)]⟩)

theorem cmpF_no {a b c d : Int} (h : okB a b c d = false) : cmpF a b c d = (0, 120) := by unfold cmpF; rw [if_neg (by rw [h]; simp)]
theorem cmpF_yes {a b c d : Int} (h : okB a b c d = true) : cmpF a b c d = (cmpI a b c d, 0) := by unfold cmpF; rw [if_pos h]

/-- Division rounded towards zero, and its corrections. -/
theorem ceil_of_floor (a b : Int) (hb : 1 ≤ b) : (a / b * b = a ∧ -((-a) / b) = a / b) ∨ (a / b * b < a ∧ -((-a) / b) = a / b + 1) := by
  have e := Int.mul_ediv_add_emod a b
  have m0 := Int.emod_nonneg a (show b ≠ 0 by omega)
  have m1 := Int.emod_lt_of_pos a (show 0 < b by omega)
  by_cases h : a % b = 0
  · left
    have e1 : -a = b * (-(a / b)) := by rw [Int.mul_neg]; omega
    refine ⟨by rw [Int.mul_comm]; omega, ?_⟩
    rw [e1, Int.mul_ediv_cancel_left _ (by omega)]; omega
  · right
    have e1 : (-a) / b = -(a / b) - 1 :=
      ((Int.ediv_emod_unique (show 0 < b by omega)).2 ⟨by rw [Int.mul_sub, Int.mul_neg]; omega, by omega, by omega⟩ : (-a) / b = -(a / b) - 1 ∧ (-a) % b = b - a % b).1
    exact ⟨by rw [Int.mul_comm]; omega, by omega⟩

theorem tdiv_floor (a b : Int) (hb : 1 ≤ b) : (a.tdiv b * b ≤ a ∧ a.tdiv b = a / b) ∨ (a < a.tdiv b * b ∧ a.tdiv b - 1 = a / b) := by
  have e := Int.mul_tdiv_add_tmod a b
  have h2 := Int.tmod_lt_of_pos a (show 0 < b by omega)
  have h3 := Int.tmod_lt_of_pos (-a) (show 0 < b by omega)
  rw [Int.neg_tmod] at h3
  by_cases h : a.tmod b < 0
  · right
    refine ⟨by rw [Int.mul_comm]; omega, ?_⟩
    exact (((Int.ediv_emod_unique (show 0 < b by omega)).2 ⟨by rw [Int.mul_sub]; omega, by omega, by omega⟩ : a / b = a.tdiv b - 1 ∧ a % b = a.tmod b + b).1).symm
  · left
    refine ⟨by rw [Int.mul_comm]; omega, ?_⟩
    exact (((Int.ediv_emod_unique (show 0 < b by omega)).2 ⟨by omega, by omega, by omega⟩ : a / b = a.tdiv b ∧ a % b = a.tmod b).1).symm

end Go.Proofs.YtiibpdameldblaaDoor
