/- math/bits.Div64 at all arguments whose quotient fits. -/
import Derived.Test.YtaknbjjcgcmdlaaDiv
import Derived.Lib.BitFns
import Derived.Lib.ItoaNum
namespace Go.Proofs.Ytaknbjjcgcmdlaa
open Go Go.RowKit

/-- The numbers of the two steps, for any base. -/
theorem div_facts (B y u un1 un0 : Nat) (hB : 0 < B) (hy : B ≤ 2 * (y / B)) (hu : u < y) (h1 : un1 < B) (h0 : un0 < B) :
    Digits B (y / B) (y % B) u un1 ∧ Digits B (y / B) (y % B) ((u * B + un1) % y) un0 ∧
    (∀ v un, digit B (y / B) (y % B) v un = (v * B + un) / y) := by
  have e : y / B * B + y % B = y := by rw [Nat.mul_comm]; exact Nat.div_add_mod y B
  have hm := Nat.mod_lt y hB
  refine ⟨⟨hy, hB, hm, h1, by rw [e]; exact hu⟩, ⟨hy, hB, hm, h0, by rw [e]; exact Nat.mod_lt _ (by omega)⟩, ?_⟩
  intro v un
  unfold digit
  rw [e]

theorem two_digits' (B y u un1 un0 : Nat) (hy : 0 < y) :
    (u * B + un1) / y * B + ((u * B + un1) % y * B + un0) / y = ((u * B + un1) * B + un0) / y ∧ ((u * B + un1) % y * B + un0) % y = ((u * B + un1) * B + un0) % y := by
  have e : (u * B + un1) - (u * B + un1) / y * y = (u * B + un1) % y := by
    have := Nat.div_add_mod (u * B + un1) y
    rw [Nat.mul_comm] at this; omega
  obtain ⟨a, b⟩ := two_digits B y u un1 un0 _ _ rfl rfl hy
  rw [e] at a b
  refine ⟨a, ?_⟩
  rw [← b]
  have := Nat.div_add_mod ((u * B + un1) % y * B + un0) y
  rw [Nat.mul_comm] at this; omega

theorem shift_facts (P T hi lo y : Nat) (hP : 0 < P) (hT : 0 < T) (hlo : lo < P * T) (h : hi < y) :
    lo / T < P ∧ hi * P + lo / T < y * P ∧ (hi * (P * T) + lo) * P = (hi * P + lo / T) * (P * T) + lo * P % (P * T) := by
  have h1 : lo / T < P := by rw [Nat.div_lt_iff_lt_mul hT]; exact hlo
  refine ⟨h1, ?_, ?_⟩
  · have := Nat.mul_le_mul_right P (Nat.succ_le_of_lt h)
    rw [Nat.succ_mul] at this; omega
  · have e : lo * P / (P * T) = lo / T := by rw [Nat.mul_comm lo P, Nat.mul_div_mul_left _ _ hP]
    have d := Nat.div_add_mod (lo * P) (P * T)
    rw [e] at d
    generalize lo * P % (P * T) = r at d ⊢
    rw [Nat.add_mul, Nat.add_mul, ← d]
    have e2 : hi * (P * T) * P = hi * P * (P * T) := by rw [Nat.mul_right_comm]
    have e3 : P * T * (lo / T) = lo / T * (P * T) := Nat.mul_comm _ _
    omega

theorem bitLen_facts (y : Nat) (h0 : 0 < y) (h : y < 18446744073709551616) :
    ∃ s, s ≤ 63 ∧ Lib.bitLen y = 64 - s ∧ 9223372036854775808 ≤ y * 2 ^ s ∧ y * 2 ^ s < 18446744073709551616 ∧ 2 ^ s * 2 ^ (64 - s) = 18446744073709551616 := by
  obtain ⟨a, b, c⟩ := Lib.bitLenAux_bounds 64 y h (by omega)
  have d : Lib.bitLenAux 64 y ≤ 64 := Lib.bitLen_le y 64 (Nat.le_refl _) h
  unfold Lib.bitLen
  generalize Lib.bitLenAux 64 y = k at *
  refine ⟨64 - k, by omega, by omega, ?_, ?_, ?_⟩
  · have e : 2 ^ (k - 1) * 2 ^ (64 - k) = 2 ^ 63 := by rw [← Nat.pow_add]; congr 1; omega
    have := Nat.mul_le_mul_right (2 ^ (64 - k)) b
    rw [e] at this
    exact this
  · have e : 2 ^ k * 2 ^ (64 - k) = 2 ^ 64 := by rw [← Nat.pow_add]; congr 1; omega
    have := Nat.mul_lt_mul_of_pos_right c (Nat.two_pow_pos (64 - k))
    rw [e] at this
    exact this
  · rw [← Nat.pow_add, show 64 - k + (64 - (64 - k)) = 64 by omega]

theorem or_sum (a b s : Nat) (hb : b < 2 ^ s) (h : a * 2 ^ s + b < 18446744073709551616) : bits .or .u64 ((a * 2 ^ s : Nat) : Int) (b : Int) = ((a * 2 ^ s + b : Nat) : Int) := by
  rw [bits_or_u64_nat _ _ (by omega) (by omega)]
  congr 1
  have := Nat.shiftLeft_add_eq_or_of_lt hb a
  rw [Nat.shiftLeft_eq] at this
  exact this.symm

theorem wrap_nat (n : Nat) (h : n < 18446744073709551616) : IntKind.u64.wrap (n : Int) = n := by rw [IntKind.wrap_u64]; omega
theorem wrap_nat' (n : Nat) : IntKind.u64.wrap (n : Int) = ((n % 18446744073709551616 : Nat) : Int) := by rw [IntKind.wrap_u64]; omega

/-- All numbers of the two steps, for any base. -/
theorem div_pack (B Y u un1 un0 : Nat) (hB : 0 < B) (hy : B ≤ 2 * (Y / B)) (hu : u < Y) (h1 : un1 < B) (h0 : un0 < B) :
    ∃ q1 u2 q0 rr q r q' r' : Nat, q1 * Y + u2 = u * B + un1 ∧ u2 < Y ∧ q0 * Y + rr = u2 * B + un0 ∧ rr < Y ∧ q1 < B ∧ q0 < B ∧
      u / (Y / B) = q ∧ u2 / (Y / B) = q' ∧ q * (Y / B) + r = u ∧ q' * (Y / B) + r' = u2 ∧ r < Y / B ∧ r' < Y / B ∧ q ≤ B + 1 ∧ q' ≤ B + 1 ∧
      Digits B (Y / B) (Y % B) u un1 ∧ Guess B (Y / B) (Y % B) u un1 q r ∧ q1 = digit B (Y / B) (Y % B) u un1 ∧
      Digits B (Y / B) (Y % B) u2 un0 ∧ Guess B (Y / B) (Y % B) u2 un0 q' r' ∧ q0 = digit B (Y / B) (Y % B) u2 un0 ∧
      q1 * B + q0 = ((u * B + un1) * B + un0) / Y ∧ rr = ((u * B + un1) * B + un0) % Y := by
  obtain ⟨D1, D2, hd⟩ := div_facts B Y u un1 un0 hB hy hu h1 h0
  have td := two_digits' B Y u un1 un0 (by omega)
  have G1 := Guess.start D1
  have G2 := Guess.start D2
  have e1 := hd u un1
  have e2 := hd ((u * B + un1) % Y) un0
  have d1 := D1.digit_small
  have d2 := D2.digit_small
  have n := D1.npos
  refine ⟨(u * B + un1) / Y, (u * B + un1) % Y, ((u * B + un1) % Y * B + un0) / Y, ((u * B + un1) % Y * B + un0) % Y, u / (Y / B), u % (Y / B), (u * B + un1) % Y / (Y / B), (u * B + un1) % Y % (Y / B), ?_, Nat.mod_lt _ (by omega), ?_, Nat.mod_lt _ (by omega),
    by rw [← e1]; exact d1, by rw [← e2]; exact d2, rfl, rfl, ?_, ?_, Nat.mod_lt _ n, Nat.mod_lt _ n, G1.q_le, G2.q_le, D1, G1, e1.symm, D2, G2, e2.symm, td.1, td.2⟩
  · rw [Nat.mul_comm]; exact Nat.div_add_mod _ _
  · rw [Nat.mul_comm]; exact Nat.div_add_mod _ _
  · rw [Nat.mul_comm]; exact Nat.div_add_mod _ _
  · rw [Nat.mul_comm]; exact Nat.div_add_mod _ _

/-- The guess's rest and the step's rest, as the walk spells them. -/
theorem step_facts (u yn1 q r : Nat) (hu : u < 18446744073709551616) (hq : u / yn1 = q) (e : q * yn1 + r = u) : IntKind.u64.wrap ((u : Int) - IntKind.u64.wrap ((u : Int) / (yn1 : Int) * (yn1 : Int))) = (r : Int) := by
  rw [show (u : Int) / (yn1 : Int) = ((u / yn1 : Nat) : Int) from rfl, hq, ← Int.natCast_mul]
  generalize q * yn1 = z at *
  rw [IntKind.wrap_u64, IntKind.wrap_u64]
  omega

theorem rest_facts (u un Y q1 u2 : Nat) (hY : u2 < 18446744073709551616) (e : q1 * Y + u2 = u * 4294967296 + un) : IntKind.u64.wrap (IntKind.u64.wrap (IntKind.u64.wrap ((u : Int) * 4294967296) + (un : Int)) - IntKind.u64.wrap ((q1 : Int) * (Y : Int))) = (u2 : Int) := by
  rw [← Int.natCast_mul q1 Y]
  generalize q1 * Y = z at *
  rw [IntKind.wrap_u64, IntKind.wrap_u64, IntKind.wrap_u64, IntKind.wrap_u64]
  omega

theorem mask_nat (a : Nat) (h : a < 18446744073709551616) : bits BinOp.and IntKind.u64 (a : Int) 4294967295 = ((a % 4294967296 : Nat) : Int) := Mul64.maskN a h

theorem div64_any (hi lo y : Nat) (w : World) (hlo : lo < 18446744073709551616) (hy : y < 18446744073709551616) (h : hi < y) :
    Calls Try.prog 27 #[.int .u64 hi, .int .u64 lo, .int .u64 y] w fun e w' => e = .returned (.tuple #[.int .u64 (((hi * 18446744073709551616 + lo) / y : Nat) : Int), .int .u64 (((hi * 18446744073709551616 + lo) % y : Nat) : Int)]) ∧ GrownT w w' := by
  by_cases h0 : hi = 0
  · subst h0
    rw [Nat.zero_mul, Nat.zero_add]
    exact div64_small lo y w hlo hy h
  · obtain ⟨s, hs, hbl, hY1, hY2, hPT⟩ := bitLen_facts y (by omega) hy
    have hP := Nat.two_pow_pos s
    have hT := Nat.two_pow_pos (64 - s)
    obtain ⟨f1, f2, f3⟩ := shift_facts (2 ^ s) (2 ^ (64 - s)) hi lo y hP hT (by rw [hPT]; exact hlo) h
    rw [hPT] at f3
    have hN : (hi * 18446744073709551616 + lo) * 2 ^ s / (y * 2 ^ s) = (hi * 18446744073709551616 + lo) / y := Nat.mul_div_mul_right _ _ hP
    have hM : (hi * 18446744073709551616 + lo) * 2 ^ s % (y * 2 ^ s) = (hi * 18446744073709551616 + lo) % y * 2 ^ s := Nat.mul_mod_mul_right _ _ _
    have hR : ((hi * 18446744073709551616 + lo) % y * 2 ^ s) / 2 ^ s = (hi * 18446744073709551616 + lo) % y := Nat.mul_div_cancel _ hP
    rw [← hN, ← hR, ← hM, f3]
    have hL := Nat.mod_lt (lo * 2 ^ s) (show 0 < 18446744073709551616 by omega)
    have eL : IntKind.u64.wrap ((lo : Int) * 2 ^ s) = ((lo * 2 ^ s % 18446744073709551616 : Nat) : Int) := by rw [← wrap_nat' (lo * 2 ^ s)]; simp
    have eY : IntKind.u64.wrap ((y : Int) * 2 ^ s) = ((y * 2 ^ s : Nat) : Int) := by rw [← wrap_nat (y * 2 ^ s) hY2]; simp
    have ely : (lo : Int) / 2 ^ (64 - s) = ((lo / 2 ^ (64 - s) : Nat) : Int) := by simp
    have eo := or_sum hi (lo / 2 ^ (64 - s)) s f1
    generalize lo * 2 ^ s % 18446744073709551616 = L at *
    generalize lo / 2 ^ (64 - s) = ls at *
    have eu : hi * 2 ^ s + ls < 18446744073709551616 := by omega
    have eo := eo eu
    have eh : IntKind.u64.wrap ((hi : Int) * 2 ^ s) = ((hi * 2 ^ s : Nat) : Int) := by rw [← wrap_nat (hi * 2 ^ s) (by omega)]; simp
    generalize hi * 2 ^ s = ha at *
    generalize y * 2 ^ s = Y at *
    generalize ha + ls = u at *
    have hB1 : 4294967296 ≤ 2 * (Y / 4294967296) := by omega
    obtain ⟨yn1, hyn1⟩ : ∃ z, Y / 4294967296 = z := ⟨_, rfl⟩
    obtain ⟨yn0, hyn0⟩ : ∃ z, Y % 4294967296 = z := ⟨_, rfl⟩
    obtain ⟨un1, hun1⟩ : ∃ z, L / 4294967296 = z := ⟨_, rfl⟩
    obtain ⟨un0, hun0⟩ : ∃ z, L % 4294967296 = z := ⟨_, rfl⟩
    have hmY := mask_nat Y hY2
    have hmL := mask_nat L hL
    have eLL : (u * 4294967296 + un1) * 4294967296 + un0 = u * 18446744073709551616 + L := by omega
    obtain ⟨q1, u2, q0, rr, q, r, q', r', a1, a2, a3, a4, a5, a6, a7, a8, a9, a10, a11, a12, a13, a14, D1, G1, E1, D2, G2, E2, T1, T2⟩ := div_pack 4294967296 Y u un1 un0 (by omega) hB1 f2 (by omega) (by omega)
    rw [hyn1, hyn0] at D1 G1 E1 D2 G2 E2
    rw [hyn1] at a7 a8 a9 a10 a11 a12
    rw [hyn0] at hmY
    rw [hun0] at hmL
    rw [eLL] at T1 T2
    rw [← T1, ← T2]
    have HE1 := Lib.hid E1
    have HE2 := Lib.hid E2
    clear E1 E2 T1 T2
    have p1 : (u : Int) / (yn1 : Int) = (q : Int) := by rw [← a7]; rfl
    have p2 : (u2 : Int) / (yn1 : Int) = (q' : Int) := by rw [← a8]; rfl
    have s1 := step_facts u yn1 q r (by omega) a7 a9
    have s2 := step_facts u2 yn1 q' r' (by omega) a8 a10
    have r1 := rest_facts u un1 Y q1 u2 (by omega) a1
    have r2 := rest_facts u2 un0 Y q0 rr (by omega) a3
    refine div64_core s hi lo y Y yn1 yn0 ha ls u L un1 un0 q r q1 u2 q' r' q0 rr _ _ w ⟨by omega, by omega⟩ ⟨by omega, by omega⟩ ⟨by omega, by omega⟩ hs (by omega) ?_
      ⟨by omega, by omega⟩ ⟨by omega, by omega⟩ ⟨by omega, by omega⟩ ⟨by omega, by omega⟩ ⟨by omega, by omega⟩ ⟨by omega, by omega⟩ ⟨by omega, by omega⟩ ⟨by omega, by omega⟩ ⟨by omega, by omega⟩ ⟨by omega, by omega⟩ ⟨by omega, by omega⟩ ⟨by omega, by omega⟩ ⟨by omega, by omega⟩
      eY (by omega) hmY eh ely eo eL (by omega) hmL (Lib.hid p1) (Lib.hid s1) (Lib.hid r1) (Lib.hid p2) (Lib.hid s2) (Lib.hid r2)
      (Lib.hid D1) (Lib.hid G1) (Lib.hid ⟨by omega, by omega⟩) HE1 (Lib.hid D2) (Lib.hid G2) (Lib.hid ⟨by omega, by omega⟩) HE2 (Lib.hid (by simp)) (Lib.hid ?_)
    · intro w
      refine (Try.bits_LeadingZeros64 (y : Int) w (by omega) (by omega)).mono ?_
      rintro e w' ⟨rfl, rfl⟩
      refine ⟨?_, rfl⟩
      rw [Int.toNat_natCast, hbl]
      congr 2
      omega
    · simp

end Go.Proofs.Ytaknbjjcgcmdlaa
