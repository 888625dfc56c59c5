/- What Sum of the reference returns, at every slice of buckets. -/
import Derived.Test.YtigogelabokpbaaSum
namespace Go.Proofs.Ytigogelabokpbaa
open Go Go.RowKit

theorem refSum_nil (w : World) : Calls Try.prog 12 #[.slice none 0 0] w (Bk ((0, 0), 2) w) := by
  go_enter Try.func12, Try.ntmps12
  go_wp2
  exact bodyPost_ret (v := .tuple #[.agg #[.int .i64 0, .int .i64 0], .int .i64 2]) (by simp [results, Try.results12, go_sem]) rfl ⟨rfl, keepOf (by go_grown)⟩
theorem refSum_zero (b off cap : Nat) (w : World) : Calls Try.prog 12 #[.slice (some ⟨b, off, none⟩) 0 cap] w (Bk ((0, 0), 2) w) := by
  go_enter Try.func12, Try.ntmps12
  go_wp2
  exact bodyPost_ret (v := .tuple #[.agg #[.int .i64 0, .int .i64 0], .int .i64 2]) (by simp [results, Try.results12, go_sem]) rfl ⟨rfl, keepOf (by go_grown)⟩
theorem refSum_long (b off n cap : Nat) (w : World) (hn : 12 < n) (hm : n ≤ 9223372036854775807) : Calls Try.prog 12 #[.slice (some ⟨b, off, none⟩) n cap] w (Bk ((0, 0), 3) w) := by
  have h0 : ¬ n = 0 := by omega
  have h0' : ((n : Int) == 0) = false := by simp; omega
  go_enter Try.func12, Try.ntmps12
  go_wp2
  exact bodyPost_ret (v := .tuple #[.agg #[.int .i64 0, .int .i64 0], .int .i64 3]) (by simp [results, Try.results12, go_sem]) rfl ⟨rfl, keepOf (by go_grown)⟩
theorem SumAt.drewN {w wr : World} {x y : Int} (h : SumAt w wr x y) (q : Nat) : SumAt w (wr.drewN q) x y := h
theorem SumAt.drew {w wr : World} {x y : Int} (h : SumAt w wr x y) : SumAt w wr.drew x y := h

set_option maxHeartbeats 1000000 in
theorem refSum_some (b off n cap : Nat) (a s : Nat → Int) (w : World) (h1 : 1 ≤ n) (hn : n ≤ 12) (ha : ∀ j, j < n → w.cell? ⟨b, off + j * 2, none⟩ = some (.int .i64 (a j))) (hs : ∀ j, j < n → w.cell? ⟨b, off + j * 2 + 1, none⟩ = some (.int .i64 (s j)))
    (V : (Int × Int) × Int) (HV : Hid (sumS a s n = V)) : Calls Try.prog 12 #[.slice (some ⟨b, off, none⟩) n cap] w (Bk V w) := by
  have HA := Lib.hid ha
  have HS := Lib.hid hs
  clear ha hs
  have h0 : ¬ n = 0 := by omega
  have h0' : ((n : Int) == 0) = false := by simp; omega
  go_enter Try.func12, Try.ntmps12
  go_wp2
  go_loopw [5] (fun s5 wr => ∃ (k : Nat) (x y : Int), k ≤ n ∧ s5 = .int .i64 k ∧ (0 ≤ x ∧ x ≤ 12582912) ∧ (0 ≤ y ∧ y ≤ 25165824) ∧ Hid (psum a k = x ∧ psum s k = y ∧ okEach a s k = true ∧ Keep w wr ∧ SumAt w wr x y)) (fun i _ => n - (intOf i).toNat)
  case atStart => exact ⟨0, 0, 0, Nat.zero_le _, rfl, by omega, by omega, Lib.hid ⟨rfl, rfl, rfl, keepOf (by go_grown), by unfold SumAt; simp [go_sem]⟩⟩
  case round =>
    obtain ⟨k, x, y, hk, rfl, hx, hy, HK⟩ := hrel
    by_cases hlt : k < n
    · have c0 := HK.out.2.2.2.1.some (HA.out k hlt)
      have c1 := HK.out.2.2.2.1.some (HS.out k hlt)
      obtain ⟨p, hp⟩ : ∃ p, a k = p := ⟨_, rfl⟩
      obtain ⟨q, hq⟩ : ∃ q, s k = q := ⟨_, rfl⟩
      rw [hp] at c0
      rw [hq] at c1
      cases ho : okBk p q with
      | false =>
        have HC : Hid (okBk p q = false) := Lib.hid ho
        have HO : Hid (okEach a s n = false) := Lib.hid (okEach_no hlt (by rw [hp, hq]; exact ho))
        clear ho hp hq
        go_wp2_with (go_at_call 32; ((with_reducible refine (right_is p q _ _ HC).mono ?_); rintro e w1 ⟨rfl, k1⟩; have S1 := Lib.hid (HK.out.2.2.2.2.keep k1); have r0 := S1.out.1.1; have r1 := S1.out.1.2; have f0 := S1.out.2.1.1; have f1 := S1.out.2.1.2))
        have HE : Hid (V = ((0, 0), 130)) := Lib.hid (by rw [← HV.out]; unfold sumS; rw [HO.out]; rfl)
        exact bodyPost_ret (v := .tuple #[.agg #[.int .i64 0, .int .i64 0], .int .i64 130]) (by simp [results, Try.results12, go_sem, r0, r1]) rfl ⟨by rw [HE.out], ((HK.out.2.2.2.1.trans k1).setCell (Nat.le_refl _) _).setCell (Nat.le_refl _) _⟩
      | true =>
        have HC : Hid (okBk p q = true) := Lib.hid ho
        have HO : Hid (okBk (a k) (s k) = true) := Lib.hid (by rw [hp, hq]; exact ho)
        have bq := okBk_iff.1 ho
        have bs := okEach_bd (n := k + 1) (by rw [okEach_succ, HK.out.2.2.1, HO.out]; rfl)
        simp only [psum] at bs
        rw [HK.out.1, HK.out.2.1, hp, hq] at bs
        have HP := Lib.hid hp
        have HQ := Lib.hid hq
        have w1 : IntKind.i64.wrap (x + p) = x + p := IntWalk.i64_in _ (by omega)
        have w2 : IntKind.i64.wrap (y + q) = y + q := IntWalk.i64_in _ (by omega)
        clear ho hp hq
        go_wp2_with (go_at_call 32; ((with_reducible refine (right_is p q _ _ HC).mono ?_); rintro e w1 ⟨rfl, k1⟩; have S1 := Lib.hid (HK.out.2.2.2.2.keep k1); have r0 := S1.out.2.2.1.1; have r1 := S1.out.2.2.1.2; have f0 := S1.out.2.2.2.1; have f1 := S1.out.2.2.2.2; have e0 := k1.some c0; have e1 := k1.some c1))
        go_region
        all_goals go_wp2
        all_goals go_roundw
        case rel => exact ⟨k + 1, x + p, y + q, by omega, rfl, by omega, by omega, Lib.hid ⟨by simp only [psum]; rw [HK.out.1, HP.out], by simp only [psum]; rw [HK.out.2.1, HQ.out], by rw [okEach_succ, HK.out.2.2.1, HO.out]; rfl, (((HK.out.2.2.2.1.trans k1).drew).setCell (Nat.le_succ _) _).setCell (Nat.le_succ _) _, S1.out.drew.store⟩⟩
        case measure => simp [intOf]; omega
    · obtain rfl : k = n := by omega
      have hS := HK.out.2.2.2.2
      have r0 := hS.1.1
      have r1 := hS.1.2
      have f0 := hS.2.1.1
      have f1 := hS.2.1.2
      have t0 := hS.2.2.1.1
      have t1 := hS.2.2.1.2
      clear hS
      cases ho : okBk x y with
      | false =>
        have HC : Hid (okBk x y = false) := Lib.hid ho
        have HE : Hid (V = ((0, 0), 6)) := Lib.hid (by rw [← HV.out]; unfold sumS; rw [HK.out.2.2.1, HK.out.1, HK.out.2.1, ho]; rfl)
        clear ho
        go_wp2_with (go_at_call 32; ((with_reducible refine (right_is x y _ _ HC).mono ?_); rintro e w1 ⟨rfl, k1⟩; have S1 := Lib.hid (HK.out.2.2.2.2.keep k1); have q0 := S1.out.1.1; have q1 := S1.out.1.2; have g0 := S1.out.2.1.1; have g1 := S1.out.2.1.2))
        exact bodyPost_ret (v := .tuple #[.agg #[.int .i64 0, .int .i64 0], .int .i64 6]) (by simp [results, Try.results12, go_sem, q0, q1]) rfl ⟨by rw [HE.out], ((HK.out.2.2.2.1.trans k1).setCell (Nat.le_refl _) _).setCell (Nat.le_refl _) _⟩
      | true =>
        have HC : Hid (okBk x y = true) := Lib.hid ho
        have HE : Hid (V = ((x, y), 0)) := Lib.hid (by rw [← HV.out]; unfold sumS; rw [HK.out.2.2.1, HK.out.1, HK.out.2.1, ho]; rfl)
        clear ho
        go_wp2_with (go_at_call 32; ((with_reducible refine (right_is x y _ _ HC).mono ?_); rintro e w1 ⟨rfl, k1⟩; have S1 := Lib.hid (HK.out.2.2.2.2.keep k1); have q0 := S1.out.1.1; have q1 := S1.out.1.2; have g0 := S1.out.2.1.1; have g1 := S1.out.2.1.2; have u0 := S1.out.2.2.1.1; have u1 := S1.out.2.2.1.2))
        exact bodyPost_ret (v := .tuple #[.agg #[.int .i64 x, .int .i64 y], .int .i64 0]) (by simp [results, Try.results12, go_sem, q0, q1]) rfl ⟨by rw [HE.out], ((HK.out.2.2.2.1.trans k1).setCell (Nat.le_refl _) _).setCell (Nat.le_refl _) _⟩

theorem refSum_any (v : Value) (l : List (Int × Int)) (w : World) (h : RowAt w v l) : Calls Try.prog 12 #[v] w (Bk (sumR l) w) := by
  unfold sumR
  rcases h with ⟨rfl, rfl⟩ | ⟨b, off, n, cap, rfl, rfl, h3, h4, h5⟩
  · exact refSum_nil w
  · by_cases h0 : l.length = 0
    · rw [if_pos h0, h0]; exact refSum_zero b off cap w
    · rw [if_neg h0]
      by_cases h1 : 12 < l.length
      · rw [if_pos h1]; exact refSum_long b off _ cap w h1 (by omega)
      · rw [if_neg h1]; exact refSum_some b off _ cap _ _ w (by omega) (by omega) h4 h5 _ (Lib.hid rfl)

end Go.Proofs.Ytigogelabokpbaa
