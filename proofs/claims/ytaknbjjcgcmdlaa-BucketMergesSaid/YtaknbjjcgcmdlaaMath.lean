/- Plain arithmetic: what the chapter 'num' specifies, as functions on whole numbers, and what the proofs need of them. Nothing is said of the program here. -/
import Derived.Lib.TrailingZeros
import Derived.Lib.Mul64
namespace Go.Proofs.Ytaknbjjcgcmdlaa

/-- in range: from -2^50 to 2^50 -/
def inB (n : Int) : Bool := decide (-1125899906842624 ≤ n ∧ n ≤ 1125899906842624)
theorem inB_iff (n : Int) : inB n = true ↔ -1125899906842624 ≤ n ∧ n ≤ 1125899906842624 := by unfold inB; simp
theorem inB_no (n : Int) : inB n = false ↔ n < -1125899906842624 ∨ 1125899906842624 < n := by
  unfold inB; rw [decide_eq_false_iff_not]; omega

def allIn (l : List Int) : Bool := l.all inB

/-- a result: itself and true in range, else 0 and false -/
def resS (n : Int) : Int × Bool := if inB n = true then (n, true) else (0, false)
def addS (a b : Int) : Int × Bool := if inB a = true ∧ inB b = true then resS (a + b) else (0, false)
def subS (a b : Int) : Int × Bool := if inB a = true ∧ inB b = true then resS (a - b) else (0, false)
def floorS (a b : Int) : Int × Bool := if inB a = true ∧ inB b = true ∧ 1 ≤ b then (a / b, true) else (0, false)
def ceilS (a b : Int) : Int × Bool := if inB a = true ∧ inB b = true ∧ 1 ≤ b then (-((-a) / b), true) else (0, false)
def modS (a b : Int) : Int × Bool := if inB a = true ∧ inB b = true ∧ 1 ≤ b then (a % b, true) else (0, false)
def mulDivS (a b c : Int) : Int × Bool := if inB a = true ∧ inB b = true ∧ inB c = true ∧ 1 ≤ c then resS (a * b / c) else (0, false)
def mulS (a b : Int) : Int × Bool := mulDivS a b 1
def gcdS (a b : Int) : Int := if inB a = true ∧ inB b = true then (Nat.gcd a.natAbs b.natAbs : Int) else 0

/-! ### Division of two words by one: the school method with two digits in base B -/

structure Digits (B yn1 yn0 u un : Nat) : Prop where
  top : B ≤ 2 * yn1
  pos : 0 < B
  low : yn0 < B
  un : un < B
  lt : u < yn1 * B + yn0

/-- the true digit -/
def digit (B yn1 yn0 u un : Nat) : Nat := (u * B + un) / (yn1 * B + yn0)

/-- At the head of the correcting loop: the guess is at least the digit. -/
structure Guess (B yn1 yn0 u un : Nat) (q r : Nat) : Prop where
  eq : q * yn1 + r = u
  ge : digit B yn1 yn0 u un ≤ q
  q_le : q ≤ B + 1

theorem Digits.dpos {B yn1 yn0 u un : Nat} (D : Digits B yn1 yn0 u un) : 0 < yn1 * B + yn0 := by have := D.lt; omega
theorem Digits.npos {B yn1 yn0 u un : Nat} (D : Digits B yn1 yn0 u un) : 0 < yn1 := by have := D.top; have := D.pos; omega

theorem digit_lt {B yn1 yn0 u un : Nat} (D : Digits B yn1 yn0 u un) (q : Nat) (h : u * B + un < q * (yn1 * B) + q * yn0) : digit B yn1 yn0 u un < q := by
  unfold digit
  rw [Nat.div_lt_iff_lt_mul D.dpos, Nat.mul_add]
  exact h
theorem digit_le {B yn1 yn0 u un : Nat} (D : Digits B yn1 yn0 u un) (q : Nat) (h : q * (yn1 * B) + q * yn0 ≤ u * B + un) : q ≤ digit B yn1 yn0 u un := by
  unfold digit
  rw [Nat.le_div_iff_mul_le D.dpos, Nat.mul_add]
  exact h

theorem Digits.digit_small {B yn1 yn0 u un : Nat} (D : Digits B yn1 yn0 u un) : digit B yn1 yn0 u un < B := by
  refine digit_lt D B ?_
  have h1 := Nat.mul_le_mul_right B (Nat.succ_le_of_lt D.lt)
  rw [Nat.succ_mul, Nat.add_mul, Nat.mul_comm (yn1 * B) B, Nat.mul_comm yn0 B] at h1
  have := D.un
  omega

theorem Guess.start {B yn1 yn0 u un : Nat} (D : Digits B yn1 yn0 u un) : Guess B yn1 yn0 u un (u / yn1) (u % yn1) := by
  have e := Nat.div_add_mod u yn1
  have hm := Nat.mod_lt u D.npos
  have ec : u / yn1 * yn1 = yn1 * (u / yn1) := Nat.mul_comm _ _
  refine ⟨by omega, ?_, ?_⟩
  · apply Nat.le_of_lt_succ
    refine digit_lt D (u / yn1 + 1) ?_
    have h1 := Nat.mul_le_mul_right B (show u + 1 ≤ (u / yn1 + 1) * yn1 by rw [Nat.succ_mul]; omega)
    rw [Nat.succ_mul u B, Nat.mul_assoc] at h1
    have := D.un
    omega
  · apply Nat.le_of_lt_succ
    rw [Nat.div_lt_iff_lt_mul D.npos]
    have h2 := D.lt; have h3 := D.low; have h4 := D.top
    rw [Nat.mul_comm yn1 B] at h2
    show u < (B + 1 + 1) * yn1
    rw [Nat.succ_mul, Nat.succ_mul]
    omega

/-- The test holds: the guess is too great. -/
theorem Guess.down {B yn1 yn0 u un q r : Nat} (D : Digits B yn1 yn0 u un) (G : Guess B yn1 yn0 u un q r) (h : B ≤ q ∨ r * B + un < q * yn0) :
    1 ≤ q ∧ Guess B yn1 yn0 u un (q - 1) (r + yn1) := by
  have he := G.eq; have hq := G.q_le
  have lt : digit B yn1 yn0 u un < q := by
    rcases h with h | h
    · exact Nat.lt_of_lt_of_le D.digit_small h
    · refine digit_lt D q ?_
      have : u * B = q * (yn1 * B) + r * B := by rw [← he, Nat.add_mul, Nat.mul_assoc]
      omega
  obtain ⟨k, rfl⟩ : ∃ k, q = k + 1 := ⟨q - 1, by omega⟩
  rw [Nat.succ_mul] at he
  refine ⟨by omega, ⟨?_, by simp; omega, by simp; omega⟩⟩
  simp; omega

/-- The test does not hold: the guess is the digit. -/
theorem Guess.stop {B yn1 yn0 u un q r : Nat} (D : Digits B yn1 yn0 u un) (G : Guess B yn1 yn0 u un q r) (h : q * yn0 ≤ r * B + un) :
    q = digit B yn1 yn0 u un := by
  apply Nat.le_antisymm _ G.ge
  refine digit_le D q ?_
  have : u * B = q * (yn1 * B) + r * B := by rw [← G.eq, Nat.add_mul, Nat.mul_assoc]
  omega

/-- The rest has left the word: the guess, at most B, is the digit. -/
theorem Guess.broken {B yn1 yn0 u un q r : Nat} (D : Digits B yn1 yn0 u un) (G : Guess B yn1 yn0 u un q r) (h : B ≤ r) (hq : q ≤ B) :
    q = digit B yn1 yn0 u un := by
  refine G.stop D ?_
  have h1 : q * yn0 ≤ B * B := Nat.mul_le_mul hq (Nat.le_of_lt D.low)
  have h2 : B * B ≤ r * B := Nat.mul_le_mul_right B h
  omega

/-- The two digits together. -/
theorem two_digits (B y u un1 un0 q1 q0 : Nat) (h1 : q1 = (u * B + un1) / y) (h0 : q0 = ((u * B + un1 - q1 * y) * B + un0) / y) (hy : 0 < y) :
    q1 * B + q0 = ((u * B + un1) * B + un0) / y ∧ (u * B + un1 - q1 * y) * B + un0 - q0 * y = ((u * B + un1) * B + un0) % y := by
  have a := Nat.div_add_mod (u * B + un1) y
  rw [← h1, Nat.mul_comm y q1] at a
  generalize u * B + un1 = A at *
  obtain ⟨r1, hr1⟩ : ∃ r1, r1 = A - q1 * y := ⟨_, rfl⟩
  rw [← hr1] at h0 ⊢
  have b := Nat.div_add_mod (r1 * B + un0) y
  have bm := Nat.mod_lt (r1 * B + un0) hy
  rw [← h0, Nat.mul_comm y q0] at b
  have eA : A = q1 * y + r1 := by omega
  have e : A * B + un0 = y * (q1 * B + q0) + (r1 * B + un0 - q0 * y) := by
    have e1 : A * B = q1 * B * y + r1 * B := by rw [eA, Nat.add_mul, Nat.mul_assoc, Nat.mul_comm y B, ← Nat.mul_assoc]
    have e2 : y * (q1 * B + q0) = q1 * B * y + q0 * y := by rw [Nat.mul_add, Nat.mul_comm y (q1 * B), Nat.mul_comm y q0]
    rw [e1, e2]; omega
  have hm : r1 * B + un0 - q0 * y < y := by omega
  rw [e]
  constructor
  · rw [Nat.mul_add_div hy, Nat.div_eq_of_lt hm]; rfl
  · rw [Nat.mul_add_mod, Nat.mod_eq_of_lt hm]

end Go.Proofs.Ytaknbjjcgcmdlaa
