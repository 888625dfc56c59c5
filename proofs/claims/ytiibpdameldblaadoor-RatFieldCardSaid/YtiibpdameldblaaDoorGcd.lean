/- What commonDivisor and Gcd of the package num return: the greatest common divisor. -/
import Derived.Test.YtiibpdameldblaaDoorGcdMath
import Derived.Test.YtiibpdameldblaaDoorNum
import Derived.Test.YtiibpdameldblaaDoorShelf
import Derived.Deep.LoopGhost
namespace Go.Proofs.YtiibpdameldblaaDoor
open Go Go.RowKit

/-- The table of the library that TrailingZeros64 reads lies in its variable. -/
def Tab (w : World) : Prop := TabAt 0 Lib.deBruijn64tab w
theorem Tab.grown {w w' : World} (t : Tab w) (h : Grown w w') : Tab w' := tabGrown h t

/-- What TrailingZeros64 tells of x: k zeros, and the odd rest z. -/
def Tz (x : Int) (w : World) (e : Ending) (w' : World) : Prop :=
  ∃ (k : Nat) (z : Int), k ≤ 63 ∧ x / 2 ^ k = z ∧ 1 ≤ z ∧ z ≤ x ∧ Hid (x.toNat = 2 ^ k * z.toNat ∧ z.toNat % 2 = 1) ∧ e = .returned (.int .i64 k) ∧ w = w'

theorem tz_as (x : Int) (w : World) (hT : Tab w) (h0 : 0 < x) (h : x < 18446744073709551616) : Calls Tryd.prog 58 #[.int .u64 x] w (Tz x w) := by
  obtain ⟨n, rfl⟩ := Int.eq_ofNat_of_zero_le (Int.le_of_lt h0)
  obtain ⟨z, e, hz, hk⟩ := ctz_decomp n (by omega) (by omega)
  refine (Tryd.bits_TrailingZeros64 n (by omega) w (fun _ => hT)).mono fun e' w' ⟨he, hw⟩ => ?_
  have hzp : 0 < z := by omega
  have hp := Nat.two_pow_pos (Lib.ctz 64 n)
  have dv : n / 2 ^ Lib.ctz 64 n = z := by
    generalize Lib.ctz 64 n = k at *
    rw [e, Nat.mul_div_cancel_left _ hp]
  have le : z ≤ n := by rw [← dv]; exact Nat.div_le_self _ _
  exact ⟨Lib.ctz 64 n, (z : Int), hk, by rw [← dv]; simp, by omega, by omega, ⟨by rw [Int.toNat_natCast, Int.toNat_natCast]; exact e, by rw [Int.toNat_natCast]; exact hz⟩, he, hw.symm⟩

theorem cd_zero (a b : Int) (w : World) (h : a = 0 ∨ b = 0) (o : Int) (ho : Hid (bits BinOp.or IntKind.u64 a b = o)) : Calls Tryd.prog 56 #[.int .u64 a, .int .u64 b] w fun e w' => e = .returned (.int .u64 o) ∧ w = w' := by
  by_cases h0 : a = 0
  · have h1 : (a == 0) = true := by simp [h0]
    clear h h0
    have K := ho.out
    clear ho
    go_enter Tryd.func56, Tryd.ntmps56
    go_wp2
    go_step3
    go_wp2
    rw [Exit.noGoto_ret]
    go_ret
    exact ⟨rfl, rfl⟩
  · have h1 : (a == 0) = false := by simp [h0]
    have h2 : (b == 0) = true := by simp; omega
    clear h h0
    have K := ho.out
    clear ho
    go_enter Tryd.func56, Tryd.ntmps56
    go_wp2
    go_step3
    go_wp2
    rw [Exit.noGoto_ret]
    go_ret
    exact ⟨rfl, rfl⟩

/-- At the loop's head: two odd numbers with the divisor G. -/
def Odds (G : Nat) (u v : Value) : Prop :=
  ∃ x y : Int, u = .int .u64 x ∧ v = .int .u64 y ∧ 0 < x ∧ x < 18446744073709551616 ∧ 0 < y ∧ y < 18446744073709551616 ∧ x.toNat % 2 = 1 ∧ y.toNat % 2 = 1 ∧ x.toNat.gcd y.toNat = G

theorem cd_end {a b a' b' o c g x : Int} {i j t : Nat} (HA : a.toNat = 2 ^ i * a'.toNat ∧ a'.toNat % 2 = 1) (HB : b.toNat = 2 ^ j * b'.toNat ∧ b'.toNat % 2 = 1) (HC : o.toNat = 2 ^ t * c.toNat ∧ c.toNat % 2 = 1)
    (ho : a.toNat ||| b.toNat = o.toNat) (hg : (a.toNat.gcd b.toNat : Int) = g) (hx : x.toNat = a'.toNat.gcd b'.toNat) (x1 : 0 ≤ x) (ha : 0 < a) (ha2 : a < 18446744073709551616) : IntKind.u64.wrap (x * 2 ^ t) = g := by
  have e := gcd_whole i j a'.toNat b'.toNat t c.toNat HA.2 HB.2 HC.2 (by rw [← HA.1, ← HB.1, ← HC.1]; exact ho)
  rw [← HA.1, ← HB.1, ← hx] at e
  have le := Nat.gcd_le_left b.toNat (show 0 < a.toNat by omega)
  have ex : x = ((x.toNat : Nat) : Int) := by omega
  rw [← hg, ← e, ex, Int.toNat_natCast]
  rw [← e] at le
  rw [← wrap_nat (x.toNat * 2 ^ t) (by omega)]
  simp

theorem cd_main (a b o g : Int) (w : World) (hT : Tab w) (ha : 0 < a ∧ a < 18446744073709551616) (hb : 0 < b ∧ b < 18446744073709551616) (ho : 0 < o ∧ o < 18446744073709551616) (K0 : bits BinOp.or IntKind.u64 a b = o)
    (hg : Hid ((a.toNat.gcd b.toNat : Int) = g)) (ho' : Hid (a.toNat ||| b.toNat = o.toNat)) : Calls Tryd.prog 56 #[.int .u64 a, .int .u64 b] w fun e w' => e = .returned (.int .u64 g) ∧ w = w' := by
  have h1 : (a == 0) = false := by simp; omega
  have h2 : (b == 0) = false := by simp; omega
  have HT := Lib.hid hT
  clear hT
  go_enter Tryd.func56, Tryd.ntmps56
  go_wp2_with fail
  go_step3
  go_wp2_with fail
  go_at_call 58
  refine (tz_as o _ HT.out ho.1 ho.2).mono ?_
  rintro e w' ⟨t, c, ht, K1, hc1, hc2, HC, rfl, rfl⟩
  go_wp2_with fail
  go_at_call 58
  refine (tz_as a _ HT.out ha.1 ha.2).mono ?_
  rintro e w' ⟨i, a', hi, K2, ha1, ha2, HA, rfl, rfl⟩
  go_wp2_with fail
  go_at_call 58
  refine (tz_as b _ HT.out hb.1 hb.2).mono ?_
  rintro e w' ⟨j, b', hj, K3, hb1, hb2, HB, rfl, rfl⟩
  go_wp2_with fail
  go_step3
  go_wp2_with fail
  clear K1 K2 K3 K0 h1 h2
  go_loop [0, 1] (fun u v => Odds (a'.toNat.gcd b'.toNat) u v) (fun u v => (intOf u).toNat + (intOf v).toNat)
  case atStart => exact ⟨a', b', rfl, rfl, by omega, by omega, by omega, by omega, HA.out.2, HB.out.2, rfl⟩
  case round =>
    obtain ⟨x, y, rfl, rfl, x1, x2, y1, y2, xo, yo, hG⟩ := hrel
    have HX := Lib.hid xo
    have HY := Lib.hid yo
    have HG := Lib.hid hG
    clear xo yo hG
    by_cases heq : x = y
    · subst heq
      have K : IntKind.u64.wrap (x * 2 ^ t) = g := cd_end HA.out HB.out HC.out ho'.out hg.out (by have := HG.out; rwa [Nat.gcd_self] at this) (by omega) ha.1 ha.2
      go_wp2
      go_ret
      exact ⟨rfl, rfl⟩
    · have h1 : (x == y) = false := by simp [heq]
      by_cases hlt : y < x
      · have HZ := Lib.hid heq
        clear heq
        go_wp2_with (go_at_call 58; ((with_reducible refine (tz_as (x - y) _ HT.out (by omega) (by omega)).mono ?_); rintro e w' ⟨k, z, hk, K, z1, z2, HK, rfl, rfl⟩))
        go_round
        case rel => exact ⟨y, z, rfl, rfl, by omega, by omega, by omega, by omega, HY.out, HK.out.2, by rw [← HG.out, Nat.gcd_comm x.toNat]; exact gcd_round y.toNat x.toNat k z.toNat HY.out (by omega) (by rw [← HK.out.1]; omega)⟩
        case measure => simp [intOf]; omega
      · have hlt' : x < y := by omega
        have HZ := Lib.hid heq
        clear heq
        go_wp2_with (go_at_call 58; ((with_reducible refine (tz_as (y - x) _ HT.out (by omega) (by omega)).mono ?_); rintro e w' ⟨k, z, hk, K, z1, z2, HK, rfl, rfl⟩))
        go_round
        case rel => exact ⟨x, z, rfl, rfl, by omega, by omega, by omega, by omega, HX.out, HK.out.2, by rw [← HG.out]; exact gcd_round x.toNat y.toNat k z.toNat HX.out (by omega) (by rw [← HK.out.1]; omega)⟩
        case measure => simp [intOf]; omega

/-- commonDivisor at all words below 2^63. -/
theorem cd_any (a b : Int) (w : World) (hT : Tab w) (ha : 0 ≤ a ∧ a ≤ 1125899906842624) (hb : 0 ≤ b ∧ b ≤ 1125899906842624) (g : Int) (hg : Hid ((a.toNat.gcd b.toNat : Int) = g)) :
    Calls Tryd.prog 56 #[.int .u64 a, .int .u64 b] w fun e w' => e = .returned (.int .u64 g) ∧ w = w' := by
  obtain ⟨x, rfl⟩ := Int.eq_ofNat_of_zero_le ha.1
  obtain ⟨y, rfl⟩ := Int.eq_ofNat_of_zero_le hb.1
  have hor := bits_or_u64_nat x y (by omega) (by omega)
  have hgo := hg.out
  rw [Int.toNat_natCast, Int.toNat_natCast] at hgo
  by_cases h0 : x = 0
  · subst h0
    refine cd_zero _ _ w (Or.inl rfl) g (Lib.hid ?_)
    refine hor.trans ?_
    rw [← hgo, Nat.zero_or, Nat.gcd_zero_left]
  · by_cases h1 : y = 0
    · subst h1
      refine cd_zero _ _ w (Or.inr rfl) g (Lib.hid ?_)
      refine hor.trans ?_
      rw [← hgo, Nat.or_zero, Nat.gcd_zero_right]
    · have lt : x ||| y < 2 ^ 51 := Nat.or_lt_two_pow (by omega) (by omega)
      have gt : 0 < x ||| y := by have := Nat.left_le_or (n := x) (m := y); omega
      exact cd_main x y ((x ||| y : Nat) : Int) g w hT ⟨by omega, by omega⟩ ⟨by omega, by omega⟩ ⟨by omega, by omega⟩ hor hg (Lib.hid (by rw [Int.toNat_natCast, Int.toNat_natCast, Int.toNat_natCast]))

theorem gcd_bound (a b : Int) (h1 : -1125899906842624 ≤ a ∧ a ≤ 1125899906842624) (h2 : -1125899906842624 ≤ b ∧ b ≤ 1125899906842624) : (a.natAbs.gcd b.natAbs : Int) ≤ 1125899906842624 := by
  by_cases ha : a = 0
  · subst ha
    rw [show Int.natAbs 0 = 0 from rfl, Nat.gcd_zero_left]; omega
  · have := Nat.gcd_le_left b.natAbs (show 0 < a.natAbs by omega)
    omega

theorem gcd_any (a b : Int) (w : World) (hT : Tab w) : Calls Tryd.prog 42 #[.int .i64 a, .int .i64 b] w (Num (gcdS a b) w) := by
  unfold gcdS
  by_cases h : inB a = true ∧ inB b = true
  · rw [if_pos h]
    have H := Lib.hid (both_yes h.1 h.2)
    have a1 := (inB_iff a).1 h.1
    have b1 := (inB_iff b).1 h.2
    have le := gcd_bound a b a1 b1
    have g0 : (0 : Int) ≤ (a.natAbs.gcd b.natAbs : Int) := by omega
    have A1 : 0 ≤ (a.natAbs : Int) ∧ (a.natAbs : Int) ≤ 1125899906842624 := by omega
    have B1 : 0 ≤ (b.natAbs : Int) ∧ (b.natAbs : Int) ≤ 1125899906842624 := by omega
    have HG : Hid (((a.natAbs : Int).toNat.gcd (b.natAbs : Int).toNat : Int) = (a.natAbs.gcd b.natAbs : Int)) := Lib.hid (by rw [Int.toNat_natCast, Int.toNat_natCast])
    generalize (a.natAbs.gcd b.natAbs : Int) = g at *
    obtain ⟨A, hA⟩ : ∃ z, (a.natAbs : Int) = z := ⟨_, rfl⟩
    obtain ⟨B, hB⟩ : ∃ z, (b.natAbs : Int) = z := ⟨_, rfl⟩
    rw [hA] at A1 HG
    rw [hB] at B1 HG
    have HA := Lib.hid hA
    have HB := Lib.hid hB
    have HT := Lib.hid hT
    clear h hA hB hT
    go_enter Tryd.func42, Tryd.ntmps42
    go_wp2_with (first | (go_at_call 55; ((with_reducible refine (inRange2 a b w true H.out).mono ?_); rintro e w' ⟨rfl, rfl⟩)) | (go_at_call 57; ((with_reducible refine (magnitude_as a A _ (by omega) (by omega) HA).mono ?_); rintro e w' ⟨rfl, rfl⟩)) | (go_at_call 57; ((with_reducible refine (magnitude_as b B _ (by omega) (by omega) HB).mono ?_); rintro e w' ⟨rfl, rfl⟩)) | (go_at_call 56; ((with_reducible refine (cd_any A B _ (HT.out.grown (by go_grown)) A1 B1 g HG).mono ?_); rintro e w' ⟨rfl, rfl⟩)))
    go_ret
    exact ⟨rfl, by go_grown⟩
  · rw [if_neg h]
    have H := Lib.hid (both_no h)
    clear h hT
    go_enter Tryd.func42, Tryd.ntmps42
    go_wp2_with (go_at_call 55; refine (inRange2 a b w false H.out).mono ?_; rintro e w' ⟨rfl, rfl⟩)
    go_ret
    exact ⟨rfl, by go_grown⟩

end Go.Proofs.YtiibpdameldblaaDoor
