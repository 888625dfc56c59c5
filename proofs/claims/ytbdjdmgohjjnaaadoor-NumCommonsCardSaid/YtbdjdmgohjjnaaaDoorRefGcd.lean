/- What the reference's Gcd returns. -/
import Derived.Test.YtbdjdmgohjjnaaaDoorRef2
namespace Go.Proofs.YtbdjdmgohjjnaaaDoor
open Go Go.RowKit

/-- At the loop's head: two numbers with the divisor G. -/
def Euclid (G : Nat) (W : World) (u v : Value) (wr : World) : Prop :=
  ∃ x y : Int, u = .int .i64 x ∧ v = .int .i64 y ∧ 0 ≤ x ∧ x ≤ 1125899906842624 ∧ 0 ≤ y ∧ y ≤ 1125899906842624 ∧ x.toNat.gcd y.toNat = G ∧ Grown W wr

theorem grownDrewN {W w : World} (h : Grown W w) (n : Nat) : Grown W (w.drewN n) := by
  induction n generalizing w with
  | zero => exact h
  | succ n ih => exact ih h.drew

theorem euclid_step (x y z : Int) (hx : 0 ≤ x) (hy : 0 < y) (hz : x.tmod y = z) : 0 ≤ z ∧ z < y ∧ y.toNat.gcd z.toNat = x.toNat.gcd y.toNat := by
  rw [Int.tmod_eq_emod_of_nonneg hx] at hz
  have h0 := Int.emod_nonneg x (show y ≠ 0 by omega)
  have h1 := Int.emod_lt_of_pos x hy
  refine ⟨by omega, by omega, ?_⟩
  have e : z.toNat = x.toNat % y.toNat := by
    rw [← hz]
    obtain ⟨a, rfl⟩ := Int.eq_ofNat_of_zero_le hx
    obtain ⟨b, rfl⟩ := Int.eq_ofNat_of_zero_le (Int.le_of_lt hy)
    rfl
  rw [e, Nat.gcd_comm x.toNat, Nat.gcd_rec y.toNat x.toNat]
  exact Nat.gcd_comm _ _

theorem refGcd_yes (a b A B g : Int) (w : World) (H1 : Hid (inB a = true)) (H2 : Hid (inB b = true)) (ha : -1125899906842624 ≤ a ∧ a ≤ 1125899906842624) (hb : -1125899906842624 ≤ b ∧ b ≤ 1125899906842624)
    (hA : Hid ((a.natAbs : Int) = A)) (hB : Hid ((b.natAbs : Int) = B)) (hA' : 0 ≤ A ∧ A ≤ 1125899906842624) (hB' : 0 ≤ B ∧ B ≤ 1125899906842624) (hg : Hid ((A.toNat.gcd B.toNat : Int) = g)) :
    Calls Tryd.prog 28 #[.int .i64 a, .int .i64 b] w (Num g w) := by
  go_enter Tryd.func28, Tryd.ntmps28
  go_wp2_with (first | (go_at_call 35; ((with_reducible refine (refIn_any a true _ H1.out).mono ?_); rintro e w' ⟨rfl, rfl⟩)) | (go_at_call 35; ((with_reducible refine (refIn_any b true _ H2.out).mono ?_); rintro e w' ⟨rfl, rfl⟩)) | (go_at_call 40; ((with_reducible refine (refAbs a A _ (by omega) (by omega) hA).mono ?_); rintro e w' ⟨rfl, rfl⟩)) | (go_at_call 40; ((with_reducible refine (refAbs b B _ (by omega) (by omega) hB).mono ?_); rintro e w' ⟨rfl, rfl⟩)))
  go_loopw [0, 1] (fun u v wr => Euclid (A.toNat.gcd B.toNat) w u v wr) (fun _ v _ => (intOf v).toNat)
  case atStart => exact ⟨A, B, rfl, rfl, hA'.1, hA'.2, hB'.1, hB'.2, rfl, Grown.refl _⟩
  case round =>
    obtain ⟨x, y, rfl, rfl, x1, x2, y1, y2, hG, hgr⟩ := hrel
    have HG := Lib.hid hG
    have HGR := Lib.hid hgr
    clear hG hgr
    by_cases hy : 0 < y
    · obtain ⟨z, hz⟩ : ∃ z, x.tmod y = z := ⟨_, rfl⟩
      obtain ⟨z1, z2, hs⟩ := euclid_step x y z x1 hy hz
      have HS := Lib.hid hs
      clear hs
      go_wp2_with fail
      go_quiet (fail)
      go_wp2
      go_roundw
      case rel => exact ⟨y, z, rfl, rfl, by omega, by omega, z1, by omega, by rw [HS.out]; exact HG.out, grownDrewN HGR.out _⟩
      case measure => simp [intOf]; omega
    · obtain rfl : y = 0 := by omega
      have ex : x = g := by
        have h1 := HG.out
        have h2 := hg.out
        rw [show Int.toNat 0 = 0 from rfl, Nat.gcd_zero_right] at h1
        omega
      subst ex
      go_wp2
      go_ret
      exact ⟨rfl, HGR.out⟩

theorem refGcd_any (a b : Int) (w : World) : Calls Tryd.prog 28 #[.int .i64 a, .int .i64 b] w (Num (gcdS a b) w) := by
  unfold gcdS
  by_cases h : inB a = true ∧ inB b = true
  · rw [if_pos h]
    have a1 := (inB_iff a).1 h.1
    have b1 := (inB_iff b).1 h.2
    exact refGcd_yes a b _ _ _ w (Lib.hid h.1) (Lib.hid h.2) a1 b1 (Lib.hid rfl) (Lib.hid rfl) (by omega) (by omega) (Lib.hid (by rw [Int.toNat_natCast, Int.toNat_natCast]))
  · rw [if_neg h]
    rcases two_cases h with h1 | ⟨h1, h2⟩
    · have H1 := Lib.hid h1
      clear h h1
      go_enter Tryd.func28, Tryd.ntmps28
      go_wp2_with (go_at_call 35; ((with_reducible refine (refIn_any a false _ H1.out).mono ?_); rintro e w' ⟨rfl, rfl⟩))
      go_ret
      exact ⟨rfl, by go_grown⟩
    · have H1 := Lib.hid h1
      have H2 := Lib.hid h2
      clear h h1 h2
      go_enter Tryd.func28, Tryd.ntmps28
      go_wp2_with (first | (go_at_call 35; ((with_reducible refine (refIn_any a true _ H1.out).mono ?_); rintro e w' ⟨rfl, rfl⟩)) | (go_at_call 35; ((with_reducible refine (refIn_any b false _ H2.out).mono ?_); rintro e w' ⟨rfl, rfl⟩)))
      go_ret
      exact ⟨rfl, by go_grown⟩

end Go.Proofs.YtbdjdmgohjjnaaaDoor
