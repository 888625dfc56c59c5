/- Plain arithmetic of the binary greatest common divisor and of least common multiples. Nothing is said of the program here. -/
import Derived.Test.YtiibpdameldblaaDoorMath
namespace Go.Proofs.YtiibpdameldblaaDoor

theorem odd_testBit {a : Nat} (h : a % 2 = 1) : a.testBit 0 = true := by rw [Nat.testBit_zero]; simp [h]
theorem odd_coprime {a : Nat} (k : Nat) (h : a % 2 = 1) : (2 ^ k).Coprime a := by
  apply Nat.Coprime.pow_left
  unfold Nat.Coprime
  rw [Nat.gcd_rec, h]; rfl

/-- Of an odd number and any power of two times another only the other counts. -/
theorem gcd_odd {a : Nat} (k b : Nat) (h : a % 2 = 1) : a.gcd (2 ^ k * b) = a.gcd b := (odd_coprime k h).gcd_mul_left_cancel_right b

theorem gcd_pow_le (i j a b : Nat) (hij : i ≤ j) (ha : a % 2 = 1) : (2 ^ i * a).gcd (2 ^ j * b) = 2 ^ i * a.gcd b := by
  have e : 2 ^ j * b = 2 ^ i * (2 ^ (j - i) * b) := by rw [← Nat.mul_assoc, ← Nat.pow_add]; congr 2; omega
  rw [e, Nat.gcd_mul_left, gcd_odd _ _ ha]

theorem or_low (i j a b t c : Nat) (hij : i ≤ j) (ha : a % 2 = 1) (hc : c % 2 = 1) (h : 2 ^ i * a ||| 2 ^ j * b = 2 ^ t * c) : t = i ∨ (i = j ∧ t = i) ∨ t = i := by
  have hb : ∀ n, (2 ^ i * a ||| 2 ^ j * b).testBit n = (2 ^ t * c).testBit n := fun n => by rw [h]
  rcases Nat.lt_trichotomy t i with ht | ht | ht
  · exfalso
    have := hb t
    rw [Nat.testBit_or, Nat.testBit_two_pow_mul, Nat.testBit_two_pow_mul, Nat.testBit_two_pow_mul, Nat.sub_self, odd_testBit hc] at this
    simp at this
    omega
  · exact Or.inl ht
  · exfalso
    have := hb i
    rw [Nat.testBit_or, Nat.testBit_two_pow_mul, Nat.testBit_two_pow_mul, Nat.testBit_two_pow_mul, Nat.sub_self, odd_testBit ha] at this
    simp at this
    omega

/-- The whole: the common power of two, and the odd parts' divisor. -/
theorem gcd_whole (i j a b t c : Nat) (ha : a % 2 = 1) (hb : b % 2 = 1) (hc : c % 2 = 1) (h : 2 ^ i * a ||| 2 ^ j * b = 2 ^ t * c) :
    a.gcd b * 2 ^ t = (2 ^ i * a).gcd (2 ^ j * b) := by
  rcases Nat.le_total i j with hij | hij
  · have e : t = i := by have := or_low i j a b t c hij ha hc h; omega
    rw [gcd_pow_le i j a b hij ha, e, Nat.mul_comm]
  · have e : t = j := by have := or_low j i b a t c hij hb hc (by rw [Nat.or_comm]; exact h); omega
    rw [Nat.gcd_comm (2 ^ i * a), gcd_pow_le j i b a hij hb, e, Nat.mul_comm, Nat.gcd_comm b a]

/-- One round of the loop. -/
theorem gcd_round (a b k z : Nat) (ha : a % 2 = 1) (hab : a ≤ b) (e : b - a = 2 ^ k * z) : a.gcd z = a.gcd b := by
  rw [← gcd_odd k z ha, ← e, Nat.gcd_sub_self_right hab]

theorem ctz_decomp (x : Nat) (h0 : 0 < x) (h : x < 18446744073709551616) : ∃ z, x = 2 ^ Lib.ctz 64 x * z ∧ z % 2 = 1 ∧ Lib.ctz 64 x ≤ 63 := by
  obtain ⟨m, e, hk⟩ := Lib.ctzFrom_spec 64 x h0 h
  have e0 : Lib.ctz 64 x = Lib.ctzFrom 64 x := by unfold Lib.ctz; rw [if_neg (by omega)]
  rw [e0]
  exact ⟨2 * m + 1, e, by omega, by omega⟩

/-! ### Least common multiples -/

def lcmI (m n : Int) : Int := (m.natAbs.lcm n.natAbs : Int)
def lcmGo : Int → List Int → Option Int
  | m, [] => some m
  | m, n :: r => if 1 ≤ n ∧ lcmI m n ≤ 1125899906842624 then lcmGo (lcmI m n) r else none
def lcmR : Option Int → Int × Bool
  | some m => (m, true)
  | none => (0, false)
def lcmS (l : List Int) : Int × Bool := if allIn l = true then lcmR (lcmGo 1 l) else (0, false)

theorem lcmI_pos {m n : Int} (hm : 1 ≤ m) (hn : 1 ≤ n) : 1 ≤ lcmI m n := by
  unfold lcmI
  have := Nat.lcm_pos (show 0 < m.natAbs by omega) (show 0 < n.natAbs by omega)
  omega

/-- Divided first, then multiplied: the least common multiple. -/
theorem lcm_step (m n g : Int) (hm : 1 ≤ m ∧ m ≤ 1125899906842624) (hn : 1 ≤ n ∧ n ≤ 1125899906842624) (hg : gcdS m n = g) :
    1 ≤ g ∧ m / g * n = lcmI m n ∧ 1 ≤ m / g ∧ m / g ≤ 1125899906842624 := by
  unfold gcdS at hg
  rw [if_pos ⟨(inB_iff m).2 (by omega), (inB_iff n).2 (by omega)⟩] at hg
  obtain ⟨a, rfl⟩ := Int.eq_ofNat_of_zero_le (show 0 ≤ m by omega)
  obtain ⟨b, rfl⟩ := Int.eq_ofNat_of_zero_le (show 0 ≤ n by omega)
  rw [Int.natAbs_natCast, Int.natAbs_natCast] at hg
  have hp := Nat.gcd_pos_of_pos_left b (show 0 < a by omega)
  have hd := Nat.gcd_dvd_left a b
  have hl : a / a.gcd b * b = a.lcm b := by
    unfold Nat.lcm
    rw [Nat.mul_comm, Nat.mul_comm a b, Nat.mul_div_assoc b hd]
  have hq := Nat.div_pos (Nat.le_of_dvd (by omega) hd) hp
  have hq2 := Nat.div_le_self a (a.gcd b)
  subst hg
  refine ⟨by omega, ?_, ?_, ?_⟩
  · unfold lcmI
    rw [Int.natAbs_natCast, Int.natAbs_natCast, ← hl]; simp
  · rw [show (a : Int) / (a.gcd b : Int) = ((a / a.gcd b : Nat) : Int) from rfl]; omega
  · rw [show (a : Int) / (a.gcd b : Int) = ((a / a.gcd b : Nat) : Int) from rfl]; omega

theorem mulS_of (d n : Int) (hd : 1 ≤ d ∧ d ≤ 1125899906842624) (hn : 1 ≤ n ∧ n ≤ 1125899906842624) : mulS d n = resS (d * n) := by
  unfold mulS mulDivS
  rw [if_pos ⟨(inB_iff d).2 (by omega), (inB_iff n).2 (by omega), by decide, by omega⟩, Int.ediv_one]

theorem mulS_lcm (m n g : Int) (hm : 1 ≤ m ∧ m ≤ 1125899906842624) (hn : 1 ≤ n ∧ n ≤ 1125899906842624) (hg : gcdS m n = g) :
    mulS (m / g) n = if lcmI m n ≤ 1125899906842624 then (lcmI m n, true) else (0, false) := by
  obtain ⟨g1, e, d1, d2⟩ := lcm_step m n g hm hn hg
  have lp := lcmI_pos hm.1 hn.1
  rw [mulS_of _ _ ⟨d1, d2⟩ hn, e]
  unfold resS
  by_cases h : lcmI m n ≤ 1125899906842624
  · rw [if_pos h, if_pos ((inB_iff _).2 (by omega))]
  · rw [if_neg h, if_neg (by rw [inB_iff]; omega)]

theorem lcmGo_small (m : Int) (l : List Int) (h : ∃ n, n ∈ l ∧ n < 1) : lcmGo m l = none := by
  induction l generalizing m with
  | nil => obtain ⟨n, hn, _⟩ := h; cases hn
  | cons a r ih =>
    unfold lcmGo
    by_cases ha : 1 ≤ a ∧ lcmI m a ≤ 1125899906842624
    · rw [if_pos ha]
      obtain ⟨n, hn, h1⟩ := h
      rcases List.mem_cons.1 hn with rfl | hr
      · omega
      · exact ih _ ⟨n, hr, h1⟩
    · rw [if_neg ha]

theorem drop_getD (zs : List Int) (k : Nat) (hk : k < zs.length) : zs.drop k = zs.getD k 0 :: zs.drop (k + 1) := by
  rw [List.drop_eq_getElem_cons hk]
  simp [List.getD, List.getElem?_eq_getElem hk]

theorem allIn_getD (zs : List Int) (k : Nat) (hk : k < zs.length) (h : allIn zs = true) : -1125899906842624 ≤ zs.getD k 0 ∧ zs.getD k 0 ≤ 1125899906842624 := by
  unfold allIn at h
  rw [List.all_eq_true] at h
  refine (inB_iff _).1 (h _ ?_)
  simp [List.getD, List.getElem?_eq_getElem hk]

end Go.Proofs.YtiibpdameldblaaDoor
