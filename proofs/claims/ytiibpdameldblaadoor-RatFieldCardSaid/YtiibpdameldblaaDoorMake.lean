/- What Make of the package rat returns. -/
import Derived.Test.YtiibpdameldblaaDoorCheck
import Derived.IntWalk
namespace Go.Proofs.YtiibpdameldblaaDoor
open Go Go.RowKit

/-- 'e' is the fraction r.1 / r.2.1 with the error r.2.2, and the world has only grown. -/
def Frac (r : Int × Int × Int) (w : World) (e : Ending) (w' : World) : Prop :=
  e = .returned (.tuple #[.agg #[.int .i64 r.1, .int .i64 r.2.1], .int .i64 r.2.2]) ∧ Grown w w'

theorem make_zero (n : Int) (w : World) : Calls Tryd.prog 10 #[.int .i64 n, .int .i64 0] w (Frac (0, 0, 2) w) := by
  go_enter Tryd.func10, Tryd.ntmps10
  go_wp2
  exact bodyPost_ret (v := .tuple #[.agg #[.int .i64 0, .int .i64 0], .int .i64 2]) (by simp [results, Tryd.results10, go_sem]) rfl ⟨rfl, by go_grown⟩

theorem make_big (n d : Int) (w : World) (h0 : (d == 0) = false) (H : Hid ((inW 4611686018427387904 n && inW 4611686018427387904 d) = false)) : Calls Tryd.prog 10 #[.int .i64 n, .int .i64 d] w (Frac (0, 0, 6) w) := by
  go_enter Tryd.func10, Tryd.ntmps10
  go_wp2_with (go_at_call 37; ((with_reducible refine (within2 4611686018427387904 n d _ _ (by omega) false H.out (by simp [go_sem])).mono ?_); rintro e w' ⟨rfl, rfl⟩))
  exact bodyPost_ret (v := .tuple #[.agg #[.int .i64 0, .int .i64 0], .int .i64 6]) (by simp [results, Tryd.results10, go_sem]) rfl ⟨rfl, by go_grown⟩

/-- The last part at a positive denominator: A the absolute value, g the divisor, p and q the quotients. -/
theorem make_pos (n d A g p q : Int) (w : World) (h0 : 0 < d) (hn : -4611686018427387904 ≤ n ∧ n ≤ 4611686018427387904) (hd : d ≤ 4611686018427387904) (hA : max n (-n) = A) (hA0 : 0 ≤ A ∧ A ≤ 4611686018427387904)
    (hg1 : 1 ≤ g) (HG : Hid ((A.toNat.gcd d.toNat : Int) = g)) (P : IntKind.i64.wrap (n.tdiv g) = p) (Q : IntKind.i64.wrap (d.tdiv g) = q) (b : Bool) (HB : Hid ((inW 1073741824 p && inW 1073741824 q) = b))
    (HI : Hid ((inW 4611686018427387904 n && inW 4611686018427387904 d) = true)) :
    Calls Tryd.prog 10 #[.int .i64 n, .int .i64 d] w (Frac (if b = true then (p, q, 0) else (0, 0, 6)) w) := by
  have z : (d == 0) = false := by simp; omega
  have gz : ¬ g = 0 := by omega
  have gz' : (g == 0) = false := by simp; omega
  cases b with
  | true =>
    rw [if_pos rfl]
    go_enter Tryd.func10, Tryd.ntmps10
    go_wp2_with (first | (go_at_call 37; ((with_reducible refine (within2 4611686018427387904 n d _ _ (by omega) true HI.out (by simp [go_sem])).mono ?_); rintro e w' ⟨rfl, rfl⟩)) | (go_at_call 38; ((with_reducible refine (rcd_any A d g _ hA0 (by omega) HG).mono ?_); rintro e w' ⟨rfl, nq, rfl⟩)))
    go_quiet (fail)
    go_wp2_with (go_at_call 37; ((with_reducible refine (within2 1073741824 p q _ _ (by omega) true HB.out (by simp [go_sem])).mono ?_); rintro e w' ⟨rfl, rfl⟩))
    exact bodyPost_ret (v := .tuple #[.agg #[.int .i64 p, .int .i64 q], .int .i64 0]) (by simp [results, Tryd.results10, go_sem]) rfl ⟨rfl, by go_grown; exact grownDrewN (by go_grown) _⟩
  | false =>
    rw [if_neg (by simp)]
    go_enter Tryd.func10, Tryd.ntmps10
    go_wp2_with (first | (go_at_call 37; ((with_reducible refine (within2 4611686018427387904 n d _ _ (by omega) true HI.out (by simp [go_sem])).mono ?_); rintro e w' ⟨rfl, rfl⟩)) | (go_at_call 38; ((with_reducible refine (rcd_any A d g _ hA0 (by omega) HG).mono ?_); rintro e w' ⟨rfl, nq, rfl⟩)))
    go_quiet (fail)
    go_wp2_with (go_at_call 37; ((with_reducible refine (within2 1073741824 p q _ _ (by omega) false HB.out (by simp [go_sem])).mono ?_); rintro e w' ⟨rfl, rfl⟩))
    exact bodyPost_ret (v := .tuple #[.agg #[.int .i64 0, .int .i64 0], .int .i64 6]) (by simp [results, Tryd.results10, go_sem]) rfl ⟨rfl, by go_grown; exact grownDrewN (by go_grown) _⟩

/-- The last part at a negative denominator: A the absolute value, g the divisor, p and q the quotients. -/
theorem make_neg (n d A g p q : Int) (w : World) (h0 : d < 0) (hn : -4611686018427387904 ≤ n ∧ n ≤ 4611686018427387904) (hd : -4611686018427387904 ≤ d) (hA : max (-n) n = A) (hA0 : 0 ≤ A ∧ A ≤ 4611686018427387904)
    (hg1 : 1 ≤ g) (HG : Hid ((A.toNat.gcd (-d).toNat : Int) = g)) (P : IntKind.i64.wrap ((-n).tdiv g) = p) (Q : IntKind.i64.wrap ((-d).tdiv g) = q) (b : Bool) (HB : Hid ((inW 1073741824 p && inW 1073741824 q) = b))
    (HI : Hid ((inW 4611686018427387904 n && inW 4611686018427387904 d) = true)) :
    Calls Tryd.prog 10 #[.int .i64 n, .int .i64 d] w (Frac (if b = true then (p, q, 0) else (0, 0, 6)) w) := by
  have z : (d == 0) = false := by simp; omega
  have gz : ¬ g = 0 := by omega
  have gz' : (g == 0) = false := by simp; omega
  have P' : IntKind.i64.wrap (-(n.tdiv g)) = p := by rw [← Int.neg_tdiv]; exact P
  have Q' : IntKind.i64.wrap (-(d.tdiv g)) = q := by rw [← Int.neg_tdiv]; exact Q
  cases b with
  | true =>
    rw [if_pos rfl]
    go_enter Tryd.func10, Tryd.ntmps10
    go_wp2_with (first | (go_at_call 37; ((with_reducible refine (within2 4611686018427387904 n d _ _ (by omega) true HI.out (by simp [go_sem])).mono ?_); rintro e w' ⟨rfl, rfl⟩)) | (go_at_call 38; ((with_reducible refine (rcd_any A (-d) g _ hA0 (by omega) HG).mono ?_); rintro e w' ⟨rfl, nq, rfl⟩)))
    go_quiet (fail)
    go_wp2_with (go_at_call 37; ((with_reducible refine (within2 1073741824 p q _ _ (by omega) true HB.out (by simp [go_sem])).mono ?_); rintro e w' ⟨rfl, rfl⟩))
    exact bodyPost_ret (v := .tuple #[.agg #[.int .i64 p, .int .i64 q], .int .i64 0]) (by simp [results, Tryd.results10, go_sem]) rfl ⟨rfl, by go_grown; exact grownDrewN (by go_grown) _⟩
  | false =>
    rw [if_neg (by simp)]
    go_enter Tryd.func10, Tryd.ntmps10
    go_wp2_with (first | (go_at_call 37; ((with_reducible refine (within2 4611686018427387904 n d _ _ (by omega) true HI.out (by simp [go_sem])).mono ?_); rintro e w' ⟨rfl, rfl⟩)) | (go_at_call 38; ((with_reducible refine (rcd_any A (-d) g _ hA0 (by omega) HG).mono ?_); rintro e w' ⟨rfl, nq, rfl⟩)))
    go_quiet (fail)
    go_wp2_with (go_at_call 37; ((with_reducible refine (within2 1073741824 p q _ _ (by omega) false HB.out (by simp [go_sem])).mono ?_); rintro e w' ⟨rfl, rfl⟩))
    exact bodyPost_ret (v := .tuple #[.agg #[.int .i64 0, .int .i64 0], .int .i64 6]) (by simp [results, Tryd.results10, go_sem]) rfl ⟨rfl, by go_grown; exact grownDrewN (by go_grown) _⟩

/-- The numbers of the last part. -/
theorem make_nums (n d : Int) (h0 : 0 < d) (hn : -4611686018427387904 ≤ n ∧ n ≤ 4611686018427387904) (hd : d ≤ 4611686018427387904) :
    1 ≤ gcdI n d ∧ ((n.natAbs : Int).toNat.gcd d.toNat : Int) = gcdI n d ∧ IntKind.i64.wrap (n.tdiv (gcdI n d)) = n / gcdI n d ∧ IntKind.i64.wrap (d.tdiv (gcdI n d)) = d / gcdI n d := by
  have g1 := gcdI_pos n d (by omega)
  have b1 := div_mag n (gcdI n d) 4611686018427387904 g1 hn.1 hn.2 (gcdI_dvd_left n d)
  have b2 := div_mag d (gcdI n d) 4611686018427387904 g1 (by omega) hd (gcdI_dvd_right n d)
  refine ⟨g1, gcdI_nat n d _ (by omega) rfl, ?_, ?_⟩
  · rw [tdiv_dvd (gcdI_dvd_left n d)]
    exact IntWalk.i64_in _ (by omega)
  · rw [tdiv_dvd (gcdI_dvd_right n d)]
    exact IntWalk.i64_in _ (by omega)

theorem andB (a b : Bool) : (a = true ∧ b = true) ↔ (a && b) = true := by simp

theorem make_any (n d : Int) (w : World) : Calls Tryd.prog 10 #[.int .i64 n, .int .i64 d] w (Frac (makeS n d) w) := by
  unfold makeS
  by_cases h0 : d = 0
  · subst h0
    rw [if_pos rfl]
    exact make_zero n w
  · rw [if_neg h0]
    by_cases h1 : inW 4611686018427387904 n = true ∧ inW 4611686018427387904 d = true
    · rw [if_pos h1]
      have b1 := (inW_iff _ _).1 h1.1
      have b2 := (inW_iff _ _).1 h1.2
      by_cases h2 : d < 0
      · rw [if_pos h2]
        obtain ⟨g1, g2, p, q⟩ := make_nums (-n) (-d) (by omega) (by omega) (by omega)
        unfold makeP
        rw [show ((-n).natAbs : Int) = max (-n) n by omega] at g2
        simp only [andB]
        exact make_neg n d _ _ _ _ w h2 b1 b2.1 rfl (by omega) g1 (Lib.hid g2) p q _ (Lib.hid rfl) (Lib.hid ((andB _ _).1 h1))
      · rw [if_neg h2]
        obtain ⟨g1, g2, p, q⟩ := make_nums n d (by omega) (by omega) (by omega)
        unfold makeP
        rw [show (n.natAbs : Int) = max n (-n) by omega] at g2
        simp only [andB]
        exact make_pos n d _ _ _ _ w (by omega) b1 b2.2 rfl (by omega) g1 (Lib.hid g2) p q _ (Lib.hid rfl) (Lib.hid ((andB _ _).1 h1))
    · rw [if_neg h1]
      exact make_big n d w (by simp [h0]) (Lib.hid (by rw [← Bool.not_eq_true, ← andB]; exact h1))

theorem make_is (n d : Int) (r : Int × Int × Int) (h : makeS n d = r) (w : World) : Calls Tryd.prog 10 #[.int .i64 n, .int .i64 d] w (Frac r w) := h ▸ make_any n d w

end Go.Proofs.YtiibpdameldblaaDoor
