/- Plain arithmetic of the field laws, of the order and of common factors. Nothing is said of the program here. -/
import Derived.Test.YtiibpdameldblaaDoorCmpMath
namespace Go.Proofs.YtiibpdameldblaaDoor

/-- p/q has the value n/d. -/
def Val (p q n d : Int) : Prop := p * d = n * q

theorem mul_ne {a b : Int} (ha : a ≠ 0) (hb : b ≠ 0) : a * b ≠ 0 := Int.mul_ne_zero ha hb
theorem okR_den {p q : Int} (h : okR p q = true) : q ≠ 0 := by rw [okR_iff] at h; omega

/-- One value, one fraction in lowest terms. -/
theorem Val.unique {p q p' q' n d n' d' : Int} (h : okR p q = true) (h' : okR p' q' = true) (v : Val p q n d) (v' : Val p' q' n' d') (hd : d ≠ 0) (hd' : d' ≠ 0) (e : n * d' = n' * d) : p = p' ∧ q = q' := by
  refine cross_eq h h' ?_
  unfold Val at v v'
  have k : (p * q') * (d * d') = (p' * q) * (d * d') := by grind
  exact Int.eq_of_mul_eq_mul_right (mul_ne hd hd') k
theorem Val.self (a b : Int) : Val a b a b := rfl
theorem Val.add {s1 s2 c1 c2 l1 l2 N1 D1 N2 D2 : Int} (hs : s2 ≠ 0) (hc : c2 ≠ 0) (h1 : Val s1 s2 N1 D1) (h2 : Val c1 c2 N2 D2) (h3 : Val l1 l2 (s1 * c2 + c1 * s2) (s2 * c2)) : Val l1 l2 (N1 * D2 + N2 * D1) (D1 * D2) := by
  unfold Val at *
  have k : (l1 * (D1 * D2)) * (s2 * c2) = ((N1 * D2 + N2 * D1) * l2) * (s2 * c2) := by grind
  exact Int.eq_of_mul_eq_mul_right (mul_ne hs hc) k
theorem Val.sub {s1 s2 c1 c2 l1 l2 N1 D1 N2 D2 : Int} (hs : s2 ≠ 0) (hc : c2 ≠ 0) (h1 : Val s1 s2 N1 D1) (h2 : Val c1 c2 N2 D2) (h3 : Val l1 l2 (s1 * c2 - c1 * s2) (s2 * c2)) : Val l1 l2 (N1 * D2 - N2 * D1) (D1 * D2) := by
  unfold Val at *
  have k : (l1 * (D1 * D2)) * (s2 * c2) = ((N1 * D2 - N2 * D1) * l2) * (s2 * c2) := by grind
  exact Int.eq_of_mul_eq_mul_right (mul_ne hs hc) k
theorem Val.mul {s1 s2 c1 c2 l1 l2 N1 D1 N2 D2 : Int} (hs : s2 ≠ 0) (hc : c2 ≠ 0) (h1 : Val s1 s2 N1 D1) (h2 : Val c1 c2 N2 D2) (h3 : Val l1 l2 (s1 * c1) (s2 * c2)) : Val l1 l2 (N1 * N2) (D1 * D2) := by
  unfold Val at *
  have k : (l1 * (D1 * D2)) * (s2 * c2) = ((N1 * N2) * l2) * (s2 * c2) := by grind
  exact Int.eq_of_mul_eq_mul_right (mul_ne hs hc) k

/-- A fraction of numbers that are not great. -/
theorem makeP_small (n d : Int) (hd : 1 ≤ d ∧ d ≤ 1073741824) (hn : -1073741824 ≤ n ∧ n ≤ 1073741824) :
    ∃ p q, makeP n d = (p, q, 0) ∧ okR p q = true ∧ Val p q n d ∧ (∀ M : Int, -M ≤ n → n ≤ M → -M ≤ p ∧ p ≤ M) ∧ 1 ≤ q ∧ q ≤ d := by
  have g1 := gcdI_pos n d (by omega)
  have gl := gcdI_le n d (by omega)
  have dn := gcdI_dvd_left n d
  have dd := gcdI_dvd_right n d
  have b1 := div_mag n (gcdI n d) 1073741824 g1 hn.1 hn.2 dn
  have b2 := div_mag d (gcdI n d) d g1 (by omega) (by omega) dd
  have b3 := den_pos n d (by omega)
  have e : makeP n d = (n / gcdI n d, d / gcdI n d, 0) := by
    unfold makeP
    rw [if_pos ⟨(inW_iff _ _).2 b1, (inW_iff _ _).2 (by omega)⟩]
  refine ⟨_, _, e, makeP_ok n d _ _ (by omega) e, ?_, ?_, b3, b2.2⟩
  · unfold Val
    have e1 := Int.ediv_mul_cancel dn
    have e2 := Int.ediv_mul_cancel dd
    have k : (n / gcdI n d * d) * gcdI n d = (n * (d / gcdI n d)) * gcdI n d := by grind
    exact Int.eq_of_mul_eq_mul_right (by omega) k
  · intro M h1 h2
    exact div_mag n (gcdI n d) M g1 h1 h2 dn

theorem makeS_pos (n d : Int) (hd : 1 ≤ d ∧ d ≤ 1073741824) (hn : -1073741824 ≤ n ∧ n ≤ 1073741824) : makeS n d = makeP n d := by
  unfold makeS
  rw [if_neg (by omega), if_pos ⟨(inW_iff _ _).2 (by omega), (inW_iff _ _).2 (by omega)⟩, if_neg (by omega)]
theorem makeS_neg (n d : Int) (hd : -1073741824 ≤ d ∧ d ≤ -1) (hn : -1073741824 ≤ n ∧ n ≤ 1073741824) : makeS n d = makeP (-n) (-d) := by
  unfold makeS
  rw [if_neg (by omega), if_pos ⟨(inW_iff _ _).2 (by omega), (inW_iff _ _).2 (by omega)⟩, if_pos (by omega)]

/-- p/q is in lowest terms, not greater than M/Q. -/
def Small (M Q p q : Int) : Prop := okR p q = true ∧ (-M ≤ p ∧ p ≤ M) ∧ (1 ≤ q ∧ q ≤ Q)

theorem makeS_small (M Q n d : Int) (hM : M ≤ 1073741824) (hQ : Q ≤ 1073741824) (hd : 1 ≤ d ∧ d ≤ Q) (hn : -M ≤ n ∧ n ≤ M) :
    ∃ p q, makeS n d = (p, q, 0) ∧ Small M Q p q ∧ Val p q n d := by
  rw [makeS_pos n d (by omega) (by omega)]
  obtain ⟨p, q, e, h1, h2, h3, h4, h5⟩ := makeP_small n d (by omega) (by omega)
  exact ⟨p, q, e, ⟨h1, h3 M hn.1 hn.2, h4, by omega⟩, h2⟩
theorem makeS_smallN (M Q n d : Int) (hM : M ≤ 1073741824) (hQ : Q ≤ 1073741824) (hd : -Q ≤ d ∧ d ≤ -1) (hn : -M ≤ n ∧ n ≤ M) :
    ∃ p q, makeS n d = (p, q, 0) ∧ Small M Q p q ∧ Val p q n d := by
  rw [makeS_neg n d (by omega) (by omega)]
  obtain ⟨p, q, e, h1, h2, h3, h4, h5⟩ := makeP_small (-n) (-d) (by omega) (by omega)
  refine ⟨p, q, e, ⟨h1, h3 M (by omega) (by omega), h4, by omega⟩, ?_⟩
  unfold Val at *
  rw [Int.mul_neg, Int.neg_mul] at h2
  omega

theorem mag_mul {a b A B : Int} (ha : -A ≤ a ∧ a ≤ A) (hb : -B ≤ b ∧ b ≤ B) : -(A * B) ≤ a * b ∧ a * b ≤ A * B := by
  have h : (a * b).natAbs ≤ A.natAbs * B.natAbs := by
    rw [Int.natAbs_mul]
    exact Nat.mul_le_mul (by omega) (by omega)
  have k : ((A.natAbs * B.natAbs : Nat) : Int) = A * B := by
    rw [Int.natCast_mul, Int.natAbs_of_nonneg (show 0 ≤ A by omega), Int.natAbs_of_nonneg (show 0 ≤ B by omega)]
  omega
theorem pos_mul {a b A B : Int} (ha : 1 ≤ a ∧ a ≤ A) (hb : 1 ≤ b ∧ b ≤ B) : 1 ≤ a * b ∧ a * b ≤ A * B := by
  refine ⟨?_, (mag_mul (A := A) (B := B) (by omega) (by omega)).2⟩
  have := Int.mul_pos (show 0 < a by omega) (show 0 < b by omega)
  omega

theorem okB_small {M Q M' Q' a b c d : Int} (h : Small M Q a b) (k : Small M' Q' c d) : okB a b c d = true := by
  unfold okB; rw [h.1, k.1]; rfl
theorem over_ok {ok : Bool} (h : ok = true) (n d : Int) : overS ok n d = makeS n d := by unfold overS; rw [if_pos h]

theorem add_small {M Q M' Q' a b c d : Int} (h : Small M Q a b) (k : Small M' Q' c d) (hM : M * Q' + M' * Q ≤ 1073741824) (hQ : Q * Q' ≤ 1073741824) :
    ∃ p q, addF a b c d = (p, q, 0) ∧ Small (M * Q' + M' * Q) (Q * Q') p q ∧ Val p q (a * d + c * b) (b * d) := by
  unfold addF
  rw [over_ok (okB_small h k)]
  have m1 := mag_mul (a := a) (b := d) (A := M) (B := Q') h.2.1 (by have := k.2.2; omega)
  have m2 := mag_mul (a := c) (b := b) (A := M') (B := Q) k.2.1 (by have := h.2.2; omega)
  exact makeS_small _ _ _ _ hM hQ (pos_mul h.2.2 k.2.2) (by omega)
theorem sub_small {M Q M' Q' a b c d : Int} (h : Small M Q a b) (k : Small M' Q' c d) (hM : M * Q' + M' * Q ≤ 1073741824) (hQ : Q * Q' ≤ 1073741824) :
    ∃ p q, subF a b c d = (p, q, 0) ∧ Small (M * Q' + M' * Q) (Q * Q') p q ∧ Val p q (a * d - c * b) (b * d) := by
  unfold subF
  rw [over_ok (okB_small h k)]
  have m1 := mag_mul (a := a) (b := d) (A := M) (B := Q') h.2.1 (by have := k.2.2; omega)
  have m2 := mag_mul (a := c) (b := b) (A := M') (B := Q) k.2.1 (by have := h.2.2; omega)
  exact makeS_small _ _ _ _ hM hQ (pos_mul h.2.2 k.2.2) (by omega)
theorem mul_small {M Q M' Q' a b c d : Int} (h : Small M Q a b) (k : Small M' Q' c d) (hM : M * M' ≤ 1073741824) (hQ : Q * Q' ≤ 1073741824) :
    ∃ p q, mulF a b c d = (p, q, 0) ∧ Small (M * M') (Q * Q') p q ∧ Val p q (a * c) (b * d) := by
  unfold mulF
  rw [over_ok (okB_small h k)]
  exact makeS_small _ _ _ _ hM hQ (pos_mul h.2.2 k.2.2) (mag_mul h.2.1 k.2.1)
theorem div_zero_small {M Q M' Q' a b d : Int} (h : Small M Q a b) (k : Small M' Q' 0 d) : divF a b 0 d = (0, 0, 2) := by
  unfold divF
  rw [over_ok (okB_small h k), Int.mul_zero]
  rfl
theorem div_small {M Q M' Q' a b c d : Int} (h : Small M Q a b) (k : Small M' Q' c d) (hc : c ≠ 0) (hM : M * Q' ≤ 1073741824) (hQ : Q * M' ≤ 1073741824) :
    ∃ p q, divF a b c d = (p, q, 0) ∧ Small (M * Q') (Q * M') p q ∧ Val p q (a * d) (b * c) := by
  unfold divF
  rw [over_ok (okB_small h k)]
  have m1 := mag_mul (a := a) (b := d) (A := M) (B := Q') h.2.1 (by have := k.2.2; omega)
  have m2 := mag_mul (a := b) (b := c) (A := Q) (B := M') (by have := h.2.2; omega) k.2.1
  rcases Int.lt_or_gt_of_ne hc with hn | hp
  · have : b * c < 0 := Int.mul_neg_of_pos_of_neg (by have := h.2.2; omega) hn
    exact makeS_smallN _ _ _ _ hM hQ (by omega) m1
  · have : 0 < b * c := Int.mul_pos (by have := h.2.2; omega) hp
    exact makeS_small _ _ _ _ hM hQ (by omega) m1

theorem Small.den {M Q p q : Int} (h : Small M Q p q) : q ≠ 0 := by have := h.2.2; omega
theorem addF_comm (a b c d : Int) : addF a b c d = addF c d a b := by
  unfold addF okB; rw [Bool.and_comm, Int.add_comm, Int.mul_comm b d]
theorem mulF_comm (a b c d : Int) : mulF a b c d = mulF c d a b := by
  unfold mulF okB; rw [Bool.and_comm, Int.mul_comm a c, Int.mul_comm b d]

/-- All that the theorem of the stage says of sums and differences. -/
theorem field_sums {a b c d e f : Int} (ha : Small 128 30 a b) (hb : Small 128 30 c d) (hc : Small 128 30 e f) :
    ∃ s1 s2 t1 t2 l1 l2 : Int, Small 7680 900 s1 s2 ∧ addF a b c d = (s1, s2, 0) ∧ addF c d a b = (s1, s2, 0) ∧ addF s1 s2 e f = (l1, l2, 0) ∧ addF c d e f = (t1, t2, 0) ∧ addF a b t1 t2 = (l1, l2, 0) ∧ subF s1 s2 c d = (a, b, 0) ∧ okR l1 l2 = true ∧ Val s1 s2 (a * d + c * b) (b * d) := by
  obtain ⟨s1, s2, e1, h1, v1⟩ := add_small ha hb (by omega) (by omega)
  obtain ⟨t1, t2, e2, h2, v2⟩ := add_small hb hc (by omega) (by omega)
  obtain ⟨l1, l2, e3, h3, v3⟩ := add_small h1 hc (by omega) (by omega)
  obtain ⟨r1, r2, e4, h4, v4⟩ := add_small ha h2 (by omega) (by omega)
  obtain ⟨k1, k2, e5, h5, v5⟩ := sub_small h1 hb (by omega) (by omega)
  have V3 := Val.add h1.den hc.den v1 (Val.self e f) v3
  have V4 := Val.add ha.den h2.den (Val.self a b) v2 v4
  have V5 := Val.sub h1.den hb.den v1 (Val.self c d) v5
  have nb := ha.den
  have nd := hb.den
  have nf := hc.den
  obtain ⟨rfl, rfl⟩ := Val.unique h3.1 h4.1 V3 V4 (mul_ne (mul_ne nb nd) nf) (mul_ne nb (mul_ne nd nf)) (by grind)
  obtain ⟨rfl, rfl⟩ := Val.unique h5.1 ha.1 V5 (Val.self a b) (mul_ne (mul_ne nb nd) nd) nb (by grind)
  exact ⟨s1, s2, t1, t2, l1, l2, h1, e1, by rw [addF_comm]; exact e1, e3, e2, e4, e5, h3.1, v1⟩

/-- All that it says of products and quotients. -/
theorem field_prods {a b c d e f s1 s2 : Int} (ha : Small 128 30 a b) (hb : Small 128 30 c d) (hc : Small 128 30 e f) (hs : Small 7680 900 s1 s2) (vs : Val s1 s2 (a * d + c * b) (b * d)) :
    ∃ x1 x2 p1 p2 z1 z2 g1 g2 w1 w2 : Int, mulF a b c d = (x1, x2, 0) ∧ mulF c d a b = (x1, x2, 0) ∧ mulF x1 x2 e f = (p1, p2, 0) ∧ mulF c d e f = (z1, z2, 0) ∧ mulF a b z1 z2 = (p1, p2, 0) ∧ mulF s1 s2 e f = (g1, g2, 0) ∧ mulF a b e f = (w1, w2, 0) ∧ addF w1 w2 z1 z2 = (g1, g2, 0) ∧
      (c = 0 → divF x1 x2 c d = (0, 0, 2)) ∧ (c ≠ 0 → divF x1 x2 c d = (a, b, 0)) := by
  obtain ⟨x1, x2, e1, h1, v1⟩ := mul_small ha hb (by omega) (by omega)
  obtain ⟨p1, p2, e2, h2, v2⟩ := mul_small h1 hc (by omega) (by omega)
  obtain ⟨z1, z2, e3, h3, v3⟩ := mul_small hb hc (by omega) (by omega)
  obtain ⟨q1, q2, e4, h4, v4⟩ := mul_small ha h3 (by omega) (by omega)
  obtain ⟨g1, g2, e5, h5, v5⟩ := mul_small hs hc (by omega) (by omega)
  obtain ⟨w1, w2, e6, h6, v6⟩ := mul_small ha hc (by omega) (by omega)
  obtain ⟨u1, u2, e7, h7, v7⟩ := add_small h6 h3 (by omega) (by omega)
  have V2 := Val.mul h1.den hc.den v1 (Val.self e f) v2
  have V4 := Val.mul ha.den h3.den (Val.self a b) v3 v4
  have V5 := Val.mul hs.den hc.den vs (Val.self e f) v5
  have V7 := Val.add h6.den h3.den v6 v3 v7
  have nb := ha.den
  have nd := hb.den
  have nf := hc.den
  obtain ⟨rfl, rfl⟩ := Val.unique h2.1 h4.1 V2 V4 (mul_ne (mul_ne nb nd) nf) (mul_ne nb (mul_ne nd nf)) (by grind)
  obtain ⟨rfl, rfl⟩ := Val.unique h5.1 h7.1 V5 V7 (mul_ne (mul_ne nb nd) nf) (mul_ne (mul_ne nb nf) (mul_ne nd nf)) (by grind)
  refine ⟨x1, x2, p1, p2, z1, z2, g1, g2, w1, w2, e1, by rw [mulF_comm]; exact e1, e2, e3, e4, e5, e6, e7, ?_, ?_⟩
  · rintro rfl
    exact div_zero_small h1 hb
  · intro n
    obtain ⟨r1, r2, e8, h8, v8⟩ := div_small h1 hb n (by omega) (by omega)
    have k : Val r1 r2 (a * (b * d * d * c)) (b * (b * d * d * c)) := by
      unfold Val at *
      have j : (r1 * (b * (b * d * d * c))) * (x2 * c) = (a * (b * d * d * c) * r2) * (x2 * c) := by grind
      exact Int.eq_of_mul_eq_mul_right (mul_ne h1.den n) j
    have nn : b * d * d * c ≠ 0 := mul_ne (mul_ne (mul_ne nb nd) nd) n
    obtain ⟨rfl, rfl⟩ := Val.unique h8.1 ha.1 k (Val.self a b) (mul_ne nb nn) nb (by grind)
    exact e8

end Go.Proofs.YtiibpdameldblaaDoor
