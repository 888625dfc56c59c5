/- Plain arithmetic of bounded fractions, as functions on whole numbers, and what the proofs need of them. Nothing is said of the program here. -/
import Derived.Test.YtiibpdameldblaaDoorMath
namespace Go.Proofs.YtiibpdameldblaaDoor

/-- the greatest common divisor of two whole numbers -/
def gcdI (a b : Int) : Int := (a.natAbs.gcd b.natAbs : Int)
/-- from -L to L -/
def inW (L n : Int) : Bool := decide (-L ≤ n ∧ n ≤ L)
theorem inW_iff (L n : Int) : inW L n = true ↔ -L ≤ n ∧ n ≤ L := by unfold inW; simp
theorem inW_no (L n : Int) : inW L n = false ↔ n < -L ∨ L < n := by
  unfold inW; rw [decide_eq_false_iff_not]; omega
def allW (L : Int) (l : List Int) : Bool := l.all (inW L)

/-- a valid fraction -/
def okR (n d : Int) : Bool := decide (1 ≤ d ∧ d ≤ 1073741824 ∧ -1073741824 ≤ n ∧ n ≤ 1073741824 ∧ gcdI n d = 1)
theorem okR_iff (n d : Int) : okR n d = true ↔ 1 ≤ d ∧ d ≤ 1073741824 ∧ -1073741824 ≤ n ∧ n ≤ 1073741824 ∧ gcdI n d = 1 := by unfold okR; simp
def checkS (n d : Int) : Int := if okR n d = true then 0 else 120
def bothS (a b c d : Int) : Int := if okR a b = true ∧ okR c d = true then 0 else 120

/-- Make at a positive denominator: numerator, denominator, error -/
def makeP (n d : Int) : Int × Int × Int :=
  if inW 1073741824 (n / gcdI n d) = true ∧ inW 1073741824 (d / gcdI n d) = true then (n / gcdI n d, d / gcdI n d, 0) else (0, 0, 6)
def makeS (n d : Int) : Int × Int × Int :=
  if d = 0 then (0, 0, 2)
  else if inW 4611686018427387904 n = true ∧ inW 4611686018427387904 d = true then (if d < 0 then makeP (-n) (-d) else makeP n d)
  else (0, 0, 6)

def overS (ok : Bool) (n d : Int) : Int × Int × Int := if ok = true then makeS n d else (0, 0, 120)
def okB (a b c d : Int) : Bool := okR a b && okR c d
def addF (a b c d : Int) : Int × Int × Int := overS (okB a b c d) (a * d + c * b) (b * d)
def subF (a b c d : Int) : Int × Int × Int := overS (okB a b c d) (a * d - c * b) (b * d)
def mulF (a b c d : Int) : Int × Int × Int := overS (okB a b c d) (a * c) (b * d)
def divF (a b c d : Int) : Int × Int × Int := overS (okB a b c d) (a * d) (b * c)
def cmpI (a b c d : Int) : Int := if a * d < c * b then -1 else if a * d = c * b then 0 else 1
def cmpF (a b c d : Int) : Int × Int := if okB a b c d = true then (cmpI a b c d, 0) else (0, 120)
def minF (a b c d : Int) : Int × Int × Int := if okB a b c d = true then (if cmpI a b c d = 1 then (c, d, 0) else (a, b, 0)) else (0, 0, 120)
def maxF (a b c d : Int) : Int × Int × Int := if okB a b c d = true then (if cmpI a b c d = 1 then (a, b, 0) else (c, d, 0)) else (0, 0, 120)
def orderF (a b c d : Int) : (Int × Int) × (Int × Int) × Int := if okB a b c d = true then (if cmpI a b c d = 1 then ((c, d), (a, b), 0) else ((a, b), (c, d), 0)) else ((0, 0), (0, 0), 120)
def floorF (a b : Int) : Int × Int := if okR a b = true then (a / b, 0) else (0, 120)
def ceilF (a b : Int) : Int × Int := if okR a b = true then (-((-a) / b), 0) else (0, 120)

theorem gcdI_pos (n d : Int) (h : d ≠ 0) : 1 ≤ gcdI n d := by
  unfold gcdI
  have := Nat.gcd_pos_of_pos_right n.natAbs (show 0 < d.natAbs by omega)
  omega
theorem gcdI_le (n d : Int) (h : 0 < d) : gcdI n d ≤ d := by
  unfold gcdI
  have := Nat.gcd_le_right n.natAbs (show 0 < d.natAbs by omega)
  omega
theorem gcdI_dvd_left (n d : Int) : gcdI n d ∣ n := by
  unfold gcdI
  rw [Int.ofNat_dvd_left]
  exact Nat.gcd_dvd_left _ _
theorem gcdI_dvd_right (n d : Int) : gcdI n d ∣ d := by
  unfold gcdI
  rw [Int.ofNat_dvd_left]
  exact Nat.gcd_dvd_right _ _
theorem gcdI_neg (n d : Int) : gcdI (-n) d = gcdI n d := by unfold gcdI; rw [Int.natAbs_neg]
theorem gcdI_neg' (n d : Int) : gcdI n (-d) = gcdI n d := by unfold gcdI; rw [Int.natAbs_neg]
theorem tdiv_dvd {n g : Int} (h : g ∣ n) : n.tdiv g = n / g := Int.tdiv_eq_ediv_of_dvd h

theorem div_mag (n g M : Int) (hg : 1 ≤ g) (h1 : -M ≤ n) (h2 : n ≤ M) (hd : g ∣ n) : -M ≤ n / g ∧ n / g ≤ M := by
  obtain ⟨k, rfl⟩ := hd
  rw [Int.mul_ediv_cancel_left _ (by omega)]
  have hM : 0 ≤ M := by omega
  constructor
  · rcases Int.lt_or_le k 0 with h | h
    · have := Int.mul_le_mul_of_nonpos_right hg (show k ≤ 0 by omega); omega
    · omega
  · rcases Int.lt_or_le 0 k with h | h
    · have := Int.mul_le_mul_of_nonneg_right hg (show 0 ≤ k by omega); omega
    · omega

/-- What is divided by the common divisor has no common divisor more. -/
theorem gcdI_reduced (n d : Int) (h : 0 < d) : gcdI (n / gcdI n d) (d / gcdI n d) = 1 := by
  have hg := gcdI_pos n d (by omega)
  obtain ⟨a, ha⟩ := gcdI_dvd_left n d
  obtain ⟨b, hb⟩ := gcdI_dvd_right n d
  have e1 : n / gcdI n d = a := by conv => lhs; lhs; rw [ha]
                                   exact Int.mul_ediv_cancel_left a (by omega)
  have e2 : d / gcdI n d = b := by conv => lhs; lhs; rw [hb]
                                   exact Int.mul_ediv_cancel_left b (by omega)
  rw [e1, e2]
  unfold gcdI at *
  have hp : 0 < n.natAbs.gcd d.natAbs := by omega
  have a1 : n.natAbs = n.natAbs.gcd d.natAbs * a.natAbs := by
    have := congrArg Int.natAbs ha; rw [Int.natAbs_mul, Int.natAbs_natCast] at this; exact this
  have b1 : d.natAbs = n.natAbs.gcd d.natAbs * b.natAbs := by
    have := congrArg Int.natAbs hb; rw [Int.natAbs_mul, Int.natAbs_natCast] at this; exact this
  have e : n.natAbs.gcd d.natAbs * 1 = n.natAbs.gcd d.natAbs * (a.natAbs.gcd b.natAbs) := by
    rw [← Nat.gcd_mul_left, ← a1, ← b1]; omega
  have := Nat.eq_of_mul_eq_mul_left hp e
  omega

theorem den_pos (n d : Int) (h : 0 < d) : 1 ≤ d / gcdI n d := by
  have hg := gcdI_pos n d (by omega)
  have hl := gcdI_le n d h
  rw [Int.le_ediv_iff_mul_le (by omega)]
  omega

/-- One round of Euclid's loop. -/
theorem euclid (x y : Nat) : y.gcd (x % y) = x.gcd y := by rw [Nat.gcd_comm y, ← Nat.gcd_rec, Nat.gcd_comm]

/-- The fraction that Make returns is valid. -/
theorem makeP_ok (n d p q : Int) (h : 0 < d) (e : makeP n d = (p, q, 0)) : okR p q = true := by
  unfold makeP at e
  split at e
  · rename_i hw
    simp at e
    rw [← e.1, ← e.2, okR_iff]
    have h1 := (inW_iff _ _).1 hw.1
    have h2 := (inW_iff _ _).1 hw.2
    exact ⟨den_pos n d h, h2.2, h1.1, h1.2, gcdI_reduced n d h⟩
  · simp at e

/-- The reference's way: right, or too great. -/
theorem makeP_ref (n d : Int) (h : 0 < d) : makeP n d = if okR (n / gcdI n d) (d / gcdI n d) = true then (n / gcdI n d, d / gcdI n d, 0) else (0, 0, 6) := by
  unfold makeP
  have h1 := den_pos n d h
  have h2 := gcdI_reduced n d h
  by_cases hw : inW 1073741824 (n / gcdI n d) = true ∧ inW 1073741824 (d / gcdI n d) = true
  · rw [if_pos hw, if_pos]
    have a := (inW_iff _ _).1 hw.1
    have b := (inW_iff _ _).1 hw.2
    rw [okR_iff]
    exact ⟨h1, b.2, a.1, a.2, h2⟩
  · rw [if_neg hw, if_neg]
    intro k
    rw [okR_iff] at k
    exact hw ⟨(inW_iff _ _).2 ⟨k.2.2.1, k.2.2.2.1⟩, (inW_iff _ _).2 ⟨by omega, k.2.1⟩⟩

/-- Products of the parts of valid fractions. -/
theorem prod_bd {a b : Int} (ha : -1073741824 ≤ a ∧ a ≤ 1073741824) (hb : -1073741824 ≤ b ∧ b ≤ 1073741824) : -1152921504606846976 ≤ a * b ∧ a * b ≤ 1152921504606846976 := by
  have h : (a * b).natAbs ≤ 1073741824 * 1073741824 := by
    rw [Int.natAbs_mul]
    exact Nat.mul_le_mul (by omega) (by omega)
  omega

end Go.Proofs.YtiibpdameldblaaDoor
