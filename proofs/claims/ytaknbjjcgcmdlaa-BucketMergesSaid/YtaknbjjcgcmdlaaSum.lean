/- What Sum of the package bucket and Sum of the reference return, at every slice of buckets. -/
import Derived.Test.YtaknbjjcgcmdlaaCalls
namespace Go.Proofs.Ytaknbjjcgcmdlaa
open Go Go.RowKit

def okEach (a s : Nat → Int) (n : Nat) : Bool := (List.range n).all fun k => okBk (a k) (s k)
theorem okEach_succ {a s : Nat → Int} {n : Nat} : okEach a s (n + 1) = (okEach a s n && okBk (a n) (s n)) := by
  unfold okEach; rw [List.range_succ, List.all_append]; simp
theorem okEach_no {a s : Nat → Int} {n k : Nat} (hk : k < n) (h : okBk (a k) (s k) = false) : okEach a s n = false := by
  cases e : okEach a s n with
  | false => rfl
  | true =>
    unfold okEach at e
    rw [List.all_eq_true] at e
    rw [e k (by simpa using hk)] at h; cases h
theorem okEach_bd {a s : Nat → Int} : ∀ {n : Nat}, okEach a s n = true → (0 ≤ psum a n ∧ psum a n ≤ n * 1048576) ∧ (0 ≤ psum s n ∧ psum s n ≤ n * 2097152)
  | 0, _ => by simp [psum]
  | n + 1, h => by
    rw [okEach_succ, Bool.and_eq_true] at h
    have := okEach_bd h.1
    have := okBk_iff.1 h.2
    simp only [psum]
    omega

/-- Sum's results of n buckets: the bucket, the error. -/
def sumS (a s : Nat → Int) (n : Nat) : (Int × Int) × Int :=
  if okEach a s n then (if okBk (psum a n) (psum s n) then ((psum a n, psum s n), 0) else ((0, 0), 6)) else ((0, 0), 130)
def sumR (l : List (Int × Int)) : (Int × Int) × Int :=
  if l.length = 0 then ((0, 0), 2) else if 12 < l.length then ((0, 0), 3) else sumS (atL l) (szL l) l.length
def Bk (r : (Int × Int) × Int) (w : World) : Ending → World → Prop := Res (.tuple #[.agg #[.int .i64 r.1.1, .int .i64 r.1.2], .int .i64 r.2]) w

/-- The result's block and the sum's block of Sum. -/
def SumAt (w wr : World) (x y : Int) : Prop :=
  (wr.cell? ⟨w.heap.size, 0, none⟩ = some (.int .i64 0) ∧ wr.cell? ⟨w.heap.size, 1, none⟩ = some (.int .i64 0)) ∧ (wr.frozen? ⟨w.heap.size, 0, none⟩ = false ∧ wr.frozen? ⟨w.heap.size, 1, none⟩ = false) ∧
  (wr.cell? ⟨w.heap.size + 1, 0, none⟩ = some (.int .i64 x) ∧ wr.cell? ⟨w.heap.size + 1, 1, none⟩ = some (.int .i64 y)) ∧ (wr.frozen? ⟨w.heap.size + 1, 0, none⟩ = false ∧ wr.frozen? ⟨w.heap.size + 1, 1, none⟩ = false)
theorem SumAt.keep {w wr w1 : World} {x y : Int} (h : SumAt w wr x y) (k : Keep wr w1) : SumAt w w1 x y := by
  obtain ⟨⟨h1, h2⟩, ⟨h3, h4⟩, ⟨h5, h6⟩, h7, h8⟩ := h
  exact ⟨⟨k.some h1, k.some h2⟩, ⟨(k.frozen (cellBlock h1)).trans h3, (k.frozen (cellBlock h1)).trans h4⟩, ⟨k.some h5, k.some h6⟩, (k.frozen (cellBlock h5)).trans h7, (k.frozen (cellBlock h5)).trans h8⟩
theorem SumAt.store {w wr : World} {x y x' y' : Int} (h : SumAt w wr x y) : SumAt w ((wr.setCell ⟨w.heap.size + 1, 0, none⟩ (.int .i64 x')).setCell ⟨w.heap.size + 1, 1, none⟩ (.int .i64 y')) x' y' := by
  obtain ⟨⟨h1, h2⟩, ⟨h3, h4⟩, ⟨h5, h6⟩, h7, h8⟩ := h
  refine ⟨⟨?_, ?_⟩, ⟨?_, ?_⟩, ⟨?_, ?_⟩, ?_, ?_⟩ <;> simp [go_sem, h1, h2, h3, h4, h5, h6, h7, h8]

theorem sum_nil (w : World) : Calls Try.prog 7 #[.slice none 0 0] w (Bk ((0, 0), 2) w) := by
  go_enter Try.func7, Try.ntmps7
  go_wp2
  exact bodyPost_ret (v := .tuple #[.agg #[.int .i64 0, .int .i64 0], .int .i64 2]) (by simp [results, Try.results7, go_sem]) rfl ⟨rfl, keepOf (by go_grown)⟩
theorem sum_zero (b off cap : Nat) (w : World) : Calls Try.prog 7 #[.slice (some ⟨b, off, none⟩) 0 cap] w (Bk ((0, 0), 2) w) := by
  go_enter Try.func7, Try.ntmps7
  go_wp2
  exact bodyPost_ret (v := .tuple #[.agg #[.int .i64 0, .int .i64 0], .int .i64 2]) (by simp [results, Try.results7, go_sem]) rfl ⟨rfl, keepOf (by go_grown)⟩
theorem sum_long (b off n cap : Nat) (w : World) (hn : 12 < n) (hm : n ≤ 9223372036854775807) : Calls Try.prog 7 #[.slice (some ⟨b, off, none⟩) n cap] w (Bk ((0, 0), 3) w) := by
  have h0 : ¬ n = 0 := by omega
  have h0' : ((n : Int) == 0) = false := by simp; omega
  go_enter Try.func7, Try.ntmps7
  go_wp2
  exact bodyPost_ret (v := .tuple #[.agg #[.int .i64 0, .int .i64 0], .int .i64 3]) (by simp [results, Try.results7, go_sem]) rfl ⟨rfl, keepOf (by go_grown)⟩

set_option maxHeartbeats 1000000 in
theorem sum_some (b off n cap : Nat) (a s : Nat → Int) (w : World) (h1 : 1 ≤ n) (hn : n ≤ 12) (ha : ∀ j, j < n → w.cell? ⟨b, off + j * 2, none⟩ = some (.int .i64 (a j))) (hs : ∀ j, j < n → w.cell? ⟨b, off + j * 2 + 1, none⟩ = some (.int .i64 (s j)))
    (V : (Int × Int) × Int) (HV : Hid (sumS a s n = V)) : Calls Try.prog 7 #[.slice (some ⟨b, off, none⟩) n cap] w (Bk V w) := by
  have HA := Lib.hid ha
  have HS := Lib.hid hs
  clear ha hs
  have h0 : ¬ n = 0 := by omega
  have h0' : ((n : Int) == 0) = false := by simp; omega
  go_enter Try.func7, Try.ntmps7
  go_wp2
  go_loopw [19] (fun s19 wr => ∃ (k : Nat) (x y : Int), k ≤ n ∧ s19 = .int .i64 k ∧ (0 ≤ x ∧ x ≤ 12582912) ∧ (0 ≤ y ∧ y ≤ 25165824) ∧ Hid (psum a k = x ∧ psum s k = y ∧ okEach a s k = true ∧ Keep w wr ∧ SumAt w wr x y)) (fun i _ => n - (intOf i).toNat)
  case atStart => exact ⟨0, 0, 0, Nat.zero_le _, rfl, by omega, by omega, Lib.hid ⟨rfl, rfl, rfl, keepOf (by go_grown), by unfold SumAt; simp [go_sem]⟩⟩
  case round =>
    obtain ⟨k, x, y, hk, rfl, hx, hy, HK⟩ := hrel
    by_cases hlt : k < n
    · have c0 := HK.out.2.2.2.1.some (HA.out k hlt)
      have c1 := HK.out.2.2.2.1.some (HS.out k hlt)
      obtain ⟨p, hp⟩ : ∃ p, a k = p := ⟨_, rfl⟩
      obtain ⟨q, hq⟩ : ∃ q, s k = q := ⟨_, rfl⟩
      rw [hp] at c0
      rw [hq] at c1
      cases ho : okBk p q with
      | false =>
        have HC : Hid (checkE p q = 130) := Lib.hid (by unfold checkE; rw [ho]; rfl)
        have HO : Hid (okEach a s n = false) := Lib.hid (okEach_no hlt (by rw [hp, hq]; exact ho))
        clear ho hp hq
        go_wp2_with (go_at_call 15; ((with_reducible refine (check_is p q _ _ HC).mono ?_); rintro e w1 ⟨rfl, k1⟩; have S1 := Lib.hid ((HK.out.2.2.2.2.keep (Keep.alloc (Keep.refl _) _)).keep k1); have r0 := S1.out.1.1; have r1 := S1.out.1.2; have f0 := S1.out.2.1.1; have f1 := S1.out.2.1.2))
        have HE : Hid (V = ((0, 0), 130)) := Lib.hid (by rw [← HV.out]; unfold sumS; rw [HO.out]; rfl)
        exact bodyPost_ret (v := .tuple #[.agg #[.int .i64 0, .int .i64 0], .int .i64 130]) (by simp [results, Try.results7, go_sem, r0, r1]) rfl ⟨by rw [HE.out], (((HK.out.2.2.2.1.alloc _).trans k1).setCell (Nat.le_refl _) _).setCell (Nat.le_refl _) _⟩
      | true =>
        have HC : Hid (checkE p q = 0) := Lib.hid (by unfold checkE; rw [ho]; rfl)
        have HO : Hid (okBk (a k) (s k) = true) := Lib.hid (by rw [hp, hq]; exact ho)
        have bq := okBk_iff.1 ho
        have bs := okEach_bd (n := k + 1) (by rw [okEach_succ, HK.out.2.2.1, HO.out]; rfl)
        simp only [psum] at bs
        rw [HK.out.1, HK.out.2.1, hp, hq] at bs
        have HP := Lib.hid hp
        have HQ := Lib.hid hq
        clear ho hp hq
        go_wp2_with (go_at_call 15; ((with_reducible refine (check_is p q _ _ HC).mono ?_); rintro e w1 ⟨rfl, k1⟩; have S1 := Lib.hid ((HK.out.2.2.2.2.keep (Keep.alloc (Keep.refl _) _)).keep k1); have r0 := S1.out.2.2.1.1; have r1 := S1.out.2.2.1.2; have f0 := S1.out.2.2.2.1; have f1 := S1.out.2.2.2.2; have e0 := k1.some (b := wr.heap.size) (o := 0) (v := .int .i64 p) (by simp [go_sem]); have e1 := k1.some (b := wr.heap.size) (o := 1) (v := .int .i64 q) (by simp [go_sem]); have hne : w.heap.size + 1 < wr.heap.size := cellBlock HK.out.2.2.2.2.2.2.1.1))
        go_roundw
        case rel => exact ⟨k + 1, x + p, y + q, by omega, rfl, by omega, by omega, Lib.hid ⟨by simp only [psum]; rw [HK.out.1, HP.out], by simp only [psum]; rw [HK.out.2.1, HQ.out], by rw [okEach_succ, HK.out.2.2.1, HO.out]; rfl, (((HK.out.2.2.2.1.alloc _).trans k1).setCell (Nat.le_succ _) _).setCell (Nat.le_succ _) _, S1.out.store⟩⟩
        case measure => simp [intOf]; omega
    · obtain rfl : k = n := by omega
      have hS := HK.out.2.2.2.2
      have r0 := hS.1.1
      have r1 := hS.1.2
      have f0 := hS.2.1.1
      have f1 := hS.2.1.2
      have t0 := hS.2.2.1.1
      have t1 := hS.2.2.1.2
      clear hS
      cases ho : okBk x y with
      | false =>
        have HC : Hid (checkE x y = 130) := Lib.hid (by unfold checkE; rw [ho]; rfl)
        have HE : Hid (V = ((0, 0), 6)) := Lib.hid (by rw [← HV.out]; unfold sumS; rw [HK.out.2.2.1, HK.out.1, HK.out.2.1, ho]; rfl)
        clear ho
        go_wp2_with (go_at_call 15; ((with_reducible refine (check_is x y _ _ HC).mono ?_); rintro e w1 ⟨rfl, k1⟩; have S1 := Lib.hid (HK.out.2.2.2.2.keep k1); have q0 := S1.out.1.1; have q1 := S1.out.1.2; have g0 := S1.out.2.1.1; have g1 := S1.out.2.1.2))
        exact bodyPost_ret (v := .tuple #[.agg #[.int .i64 0, .int .i64 0], .int .i64 6]) (by simp [results, Try.results7, go_sem, q0, q1]) rfl ⟨by rw [HE.out], ((HK.out.2.2.2.1.trans k1).setCell (Nat.le_refl _) _).setCell (Nat.le_refl _) _⟩
      | true =>
        have HC : Hid (checkE x y = 0) := Lib.hid (by unfold checkE; rw [ho]; rfl)
        have HE : Hid (V = ((x, y), 0)) := Lib.hid (by rw [← HV.out]; unfold sumS; rw [HK.out.2.2.1, HK.out.1, HK.out.2.1, ho]; rfl)
        clear ho
        go_wp2_with (go_at_call 15; ((with_reducible refine (check_is x y _ _ HC).mono ?_); rintro e w1 ⟨rfl, k1⟩; have S1 := Lib.hid (HK.out.2.2.2.2.keep k1); have q0 := S1.out.1.1; have q1 := S1.out.1.2; have g0 := S1.out.2.1.1; have g1 := S1.out.2.1.2; have u0 := S1.out.2.2.1.1; have u1 := S1.out.2.2.1.2))
        exact bodyPost_ret (v := .tuple #[.agg #[.int .i64 x, .int .i64 y], .int .i64 0]) (by simp [results, Try.results7, go_sem, q0, q1]) rfl ⟨by rw [HE.out], ((HK.out.2.2.2.1.trans k1).setCell (Nat.le_refl _) _).setCell (Nat.le_refl _) _⟩

theorem sum_any (v : Value) (l : List (Int × Int)) (w : World) (h : RowAt w v l) : Calls Try.prog 7 #[v] w (Bk (sumR l) w) := by
  unfold sumR
  rcases h with ⟨rfl, rfl⟩ | ⟨b, off, n, cap, rfl, rfl, h3, h4, h5⟩
  · exact sum_nil w
  · by_cases h0 : l.length = 0
    · rw [if_pos h0, h0]; exact sum_zero b off cap w
    · rw [if_neg h0]
      by_cases h1 : 12 < l.length
      · rw [if_pos h1]; exact sum_long b off _ cap w h1 (by omega)
      · rw [if_neg h1]; exact sum_some b off _ cap _ _ w (by omega) (by omega) h4 h5 _ (Lib.hid rfl)

end Go.Proofs.Ytaknbjjcgcmdlaa
