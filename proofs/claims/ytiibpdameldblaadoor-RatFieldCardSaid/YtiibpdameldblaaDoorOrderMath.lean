/- Plain arithmetic of the total order and of common factors. Nothing is said of the program here. -/
import Derived.Test.YtiibpdameldblaaDoorFieldMath
namespace Go.Proofs.YtiibpdameldblaaDoor

theorem cmpI_anti (a b c d : Int) : cmpI a b c d = -(cmpI c d a b) := by
  rcases cmp_cases a b c d with ⟨h, e⟩ | ⟨h, e⟩ | ⟨h, e⟩ <;> rcases cmp_cases c d a b with ⟨h', e'⟩ | ⟨h', e'⟩ | ⟨h', e'⟩ <;> omega

theorem cmpI_trans {a b c d e f : Int} (hb : 1 ≤ b) (hd : 1 ≤ d) (hf : 1 ≤ f) (h1 : cmpI a b c d ≤ 0) (h2 : cmpI c d e f ≤ 0) : cmpI a b e f ≤ 0 := by
  have k1 : a * d ≤ c * b := by rcases cmp_cases a b c d with ⟨h, e⟩ | ⟨h, e⟩ | ⟨h, e⟩ <;> omega
  have k2 : c * f ≤ e * d := by rcases cmp_cases c d e f with ⟨h, e⟩ | ⟨h, e⟩ | ⟨h, e⟩ <;> omega
  have k3 : a * f ≤ e * b := by
    have j1 := Int.mul_le_mul_of_nonneg_right k1 (show 0 ≤ f by omega)
    have j2 := Int.mul_le_mul_of_nonneg_right k2 (show 0 ≤ b by omega)
    have j : a * f * d ≤ e * b * d := by grind
    exact Int.le_of_mul_le_mul_right j (by omega)
  rcases cmp_cases a b e f with ⟨h, e⟩ | ⟨h, e⟩ | ⟨h, e⟩ <;> omega

theorem okR_dvd {k b : Int} (h : okR (k * b) b = true) : b = 1 := by
  rw [okR_iff] at h
  obtain ⟨h1, _, _, _, g⟩ := h
  unfold gcdI at g
  rw [Int.natAbs_mul, Nat.gcd_mul_left_left] at g
  omega

/-- All that the law of the order says. -/
theorem order_facts {a b c d e f : Int} (ha : Small 128 30 a b) (hb : Small 128 30 c d) (hc : Small 128 30 e f) :
    ∃ x y z p q l h lb hb' : Int, cmpF a b c d = (x, 0) ∧ cmpF c d a b = (-x, 0) ∧ cmpF c d e f = (y, 0) ∧ cmpF a b e f = (z, 0) ∧ subF a b c d = (p, q, 0) ∧ floorF a b = (l, 0) ∧ ceilF a b = (h, 0) ∧
      (x = 0 ↔ a = c ∧ b = d) ∧ ((x = -1 ∧ p < 0) ∨ x = 0 ∨ (x = 1 ∧ 0 < p)) ∧ (x ≤ 0 → y ≤ 0 → z ≤ 0) ∧ (y = -1 ∨ y = 0 ∨ y = 1) ∧ (z = -1 ∨ z = 0 ∨ z = 1) ∧
      l * b = lb ∧ h * b = hb' ∧ lb ≤ a ∧ a ≤ hb' ∧ ((h = l ∧ b = 1) ∨ (h = l + 1 ∧ b ≠ 1)) ∧ (-4000 ≤ lb ∧ lb ≤ 4000) ∧ (-4000 ≤ hb' ∧ hb' ≤ 4000) ∧ (-4000 ≤ l ∧ l ≤ 4000) := by
  obtain ⟨p, q, e1, h1, v1⟩ := sub_small ha hb (by omega) (by omega)
  have A := ha.2
  have B := hb.2
  have C := hc.2
  have bd : 0 < b * d := Int.mul_pos (by omega) (by omega)
  have fb : floorF a b = (a / b, 0) := by unfold floorF; rw [if_pos ha.1]
  have cb : ceilF a b = (-((-a) / b), 0) := by unfold ceilF; rw [if_pos ha.1]
  have lt := Int.lt_ediv_add_one_mul_self a (show 0 < b by omega)
  have le := Int.ediv_mul_le a (show b ≠ 0 by omega)
  rw [Int.add_mul, Int.one_mul] at lt
  have lbd : -4000 ≤ a / b ∧ a / b ≤ 4000 := by
    constructor
    · rw [Int.le_ediv_iff_mul_le (by omega)]; omega
    · have := Int.ediv_le_of_le_mul (show 0 < b by omega) (show a ≤ 4000 * b by omega)
      exact this
  refine ⟨cmpI a b c d, cmpI c d e f, cmpI a b e f, p, q, a / b, -((-a) / b), _, _, cmpF_yes (okB_small ha hb), by rw [cmpF_yes (okB_small hb ha), cmpI_anti], cmpF_yes (okB_small hb hc), cmpF_yes (okB_small ha hc), e1, fb, cb, ?_, ?_, cmpI_trans A.2.1 B.2.1 C.2.1, ?_, ?_, rfl, rfl, le, ?_, ?_, ?_, ?_, lbd⟩
  · constructor
    · intro h
      refine cross_eq ha.1 hb.1 ?_
      rcases cmp_cases a b c d with ⟨h', e'⟩ | ⟨h', e'⟩ | ⟨h', e'⟩ <;> omega
    · rintro ⟨rfl, rfl⟩
      rcases cmp_cases a b a b with ⟨h', e'⟩ | ⟨h', e'⟩ | ⟨h', e'⟩ <;> omega
  · have q1 := h1.2.2.1
    unfold Val at v1
    rcases cmp_cases a b c d with ⟨h, e'⟩ | ⟨h, e'⟩ | ⟨h, e'⟩
    · left
      refine ⟨e', ?_⟩
      have : (a * d - c * b) * q < 0 := Int.mul_neg_of_neg_of_pos (by omega) (by omega)
      rcases Int.lt_or_le p 0 with k | k
      · exact k
      · have := Int.mul_nonneg k (show 0 ≤ b * d by omega); omega
    · exact Or.inr (Or.inl e')
    · right; right
      refine ⟨e', ?_⟩
      have : 0 < (a * d - c * b) * q := Int.mul_pos (by omega) (by omega)
      rcases Int.lt_or_le 0 p with k | k
      · exact k
      · have := Int.mul_nonneg (show 0 ≤ -p by omega) (show 0 ≤ b * d by omega)
        rw [Int.neg_mul] at this; omega
  · rcases cmp_cases c d e f with ⟨h', e'⟩ | ⟨h', e'⟩ | ⟨h', e'⟩ <;> omega
  · rcases cmp_cases a b e f with ⟨h', e'⟩ | ⟨h', e'⟩ | ⟨h', e'⟩ <;> omega
  · rcases ceil_of_floor a b A.2.1 with ⟨h, k⟩ | ⟨h, k⟩
    · rw [k]; omega
    · rw [k, Int.add_mul, Int.one_mul]; omega
  · rcases ceil_of_floor a b A.2.1 with ⟨h, k⟩ | ⟨h, k⟩
    · left
      refine ⟨k, ?_⟩
      have o := ha.1
      rw [← h] at o
      exact okR_dvd o
    · right
      refine ⟨k, ?_⟩
      rintro rfl
      omega
  · omega
  · rcases ceil_of_floor a b A.2.1 with ⟨h, k⟩ | ⟨h, k⟩
    · rw [k]; omega
    · rw [k, Int.add_mul, Int.one_mul]; omega

/-! ### Common factors -/

theorem gcdI_scaled (p q f : Int) (hf : 1 ≤ f) : gcdI (p * f) (q * f) = gcdI p q * f := by
  unfold gcdI
  rw [Int.natAbs_mul, Int.natAbs_mul, Nat.gcd_mul_right, Int.natCast_mul]
  congr 1
  omega
theorem makeP_scaled (p q f : Int) (hf : 1 ≤ f) : makeP (p * f) (q * f) = makeP p q := by
  unfold makeP
  rw [gcdI_scaled p q f hf, Int.mul_ediv_mul_of_pos_left _ _ (show 0 < f by omega), Int.mul_ediv_mul_of_pos_left _ _ (show 0 < f by omega)]

theorem scale_facts {p q f : Int} (hp : -1073741824 ≤ p ∧ p ≤ 1073741824) (hq : 1 ≤ q ∧ q ≤ 1073741824) (hf : 1 ≤ f ∧ f ≤ 4294967296) :
    ∃ x y P Q : Int, makeS p q = (x, y, 0) ∧ p * f = P ∧ q * f = Q ∧ makeS P Q = (x, y, 0) ∧ makeS (-P) (-Q) = (x, y, 0) ∧ makeS x y = (x, y, 0) ∧ okR x y = true ∧ x * q = p * y ∧
      (-4611686018427387904 ≤ P ∧ P ≤ 4611686018427387904) ∧ (1 ≤ Q ∧ Q ≤ 4611686018427387904) ∧ (-1073741824 ≤ x ∧ x ≤ 1073741824) ∧ (1 ≤ y ∧ y ≤ 1073741824) := by
  have m1 := mag_mul (A := 1073741824) (B := 4294967296) hp (by omega : -4294967296 ≤ f ∧ f ≤ 4294967296)
  have m2 := pos_mul (A := 1073741824) (B := 4294967296) hq hf
  obtain ⟨x, y, e, h1, v, h3, h4, h5⟩ := makeP_small p q hq hp
  have es := makeP_scaled p q f hf.1
  obtain ⟨P, hP⟩ : ∃ P, p * f = P := ⟨_, rfl⟩
  obtain ⟨Q, hQ⟩ : ∃ Q, q * f = Q := ⟨_, rfl⟩
  rw [hP] at m1
  rw [hQ] at m2
  rw [hP, hQ] at es
  have k := (okR_iff x y).1 h1
  refine ⟨x, y, P, Q, by rw [makeS_pos p q hq hp]; exact e, hP, hQ, ?_, ?_, ?_, h1, v, by omega, by omega, by omega, by omega⟩
  · unfold makeS
    rw [if_neg (by omega), if_pos ⟨(inW_iff _ _).2 (by omega), (inW_iff _ _).2 (by omega)⟩, if_neg (by omega), es]
    exact e
  · unfold makeS
    rw [if_neg (by omega), if_pos ⟨(inW_iff _ _).2 (by omega), (inW_iff _ _).2 (by omega)⟩, if_pos (by omega), Int.neg_neg, Int.neg_neg, es]
    exact e
  · rw [makeS_pos x y (by omega) (by omega)]
    unfold makeP
    rw [k.2.2.2.2, Int.ediv_one, Int.ediv_one, if_pos ⟨(inW_iff _ _).2 (by omega), (inW_iff _ _).2 (by omega)⟩]

end Go.Proofs.YtiibpdameldblaaDoor
