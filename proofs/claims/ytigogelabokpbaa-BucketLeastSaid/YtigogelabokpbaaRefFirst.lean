/- What both, Conforms and First of the reference return, at every bucket and trace. -/
import Derived.Test.YtigogelabokpbaaRefFits
namespace Go.Proofs.Ytigogelabokpbaa
open Go Go.RowKit

def errR (B R : Int) (l : List (Int × Int)) : Int := if okBk B R then (if okT l then 0 else 131) else 130
theorem firstR_err (B R : Int) (l : List (Int × Int)) : (firstR B R l).2 = errR B R l := by
  unfold firstR errR
  split
  · split <;> rfl
  · rfl
theorem refCheckTrace_is (v : Value) (l : List (Int × Int)) (E : Int) (w : World) (h : Hid (RowAt w v l)) (H : Hid (traceE l = E)) : Calls Try.prog 20 #[v] w (Res (.int .i64 E) w) := by
  have := refCheckTrace_any v l w h.out
  rwa [H.out] at this

theorem both_any (B R : Int) (v : Value) (l : List (Int × Int)) (w : World) (h : RowAt w v l) : Calls Try.prog 37 #[.agg #[.int .i64 B, .int .i64 R], v] w (Res (.int .i64 (errR B R l)) w) := by
  have HR := Lib.hid h
  clear h
  have k0 := Keep.alloc (Keep.refl w) (.cells #[.int .i64 B, .int .i64 R] 23)
  unfold errR
  cases hb : okBk B R with
  | false =>
    have HB := Lib.hid hb
    rw [if_neg (by simp)]
    clear hb
    go_enter Try.func37, Try.ntmps37
    go_wp2_with (go_at_call 32; ((with_reducible refine (right_is B R _ _ HB).mono ?_); rintro e w1 ⟨rfl, k1⟩))
    go_ret
    exact ⟨rfl, k0.trans k1⟩
  | true =>
    have HB := Lib.hid hb
    rw [if_pos rfl]
    clear hb
    obtain ⟨E, hE⟩ : ∃ E : Int, (if okT l = true then 0 else 131) = E := ⟨_, rfl⟩
    have HT : Hid (traceE l = E) := Lib.hid hE
    rw [hE]
    clear hE
    go_enter Try.func37, Try.ntmps37
    go_wp2_with (first | (go_at_call 32; ((with_reducible refine (right_is B R _ _ HB).mono ?_); rintro e w1 ⟨rfl, k1⟩)) | (go_at_call 20; ((with_reducible refine (refCheckTrace_is v l _ _ (Lib.hid (HR.out.keep (k0.trans k1))) HT).mono ?_); rintro e w2 ⟨rfl, k2⟩)))
    go_ret
    exact ⟨rfl, (k0.trans k1).trans k2⟩
theorem both_is (B R E : Int) (v : Value) (l : List (Int × Int)) (w : World) (h : Hid (RowAt w v l)) (H : Hid (errR B R l = E)) : Calls Try.prog 37 #[.agg #[.int .i64 B, .int .i64 R], v] w (Res (.int .i64 E) w) := by
  have := both_any B R v l w h.out
  rwa [H.out] at this
theorem fits_is (B R : Int) (b : Bool) (v : Value) (l : List (Int × Int)) (w : World) (hBk : Hid (okBk B R = true)) (hok : Hid (okT l = true)) (h : Hid (RowAt w v l)) (H : Hid (fitsL B R l = b)) :
    Calls Try.prog 36 #[.agg #[.int .i64 B, .int .i64 R], v] w (Res (.bool b) w) := by
  have := fits_any B R v l w hBk.out hok.out h.out
  rwa [H.out] at this

theorem conformsR_yes {B R : Int} {l : List (Int × Int)} (hb : okBk B R = true) (ht : okT l = true) : conformsR B R l = (fitsL B R l, 0) := by
  unfold conformsR firstR
  rw [if_pos hb, if_pos ht]
  show (decide (firstL B R l < 0), 0) = _
  unfold firstL fitsL
  rw [first_neg (atL_zero ht) (by have := okBk_iff.1 hb; omega)]
theorem conformsR_no {B R : Int} {l : List (Int × Int)} (h : ¬ (okBk B R = true ∧ okT l = true)) : conformsR B R l = (false, errR B R l) := by
  unfold conformsR
  rw [firstR_err]
  congr 1
  unfold firstR
  split
  · rename_i hb
    rw [if_neg (fun ht => h ⟨hb, ht⟩)]; rfl
  · rfl

theorem refConforms_any (B R : Int) (v : Value) (l : List (Int × Int)) (w : World) (h : RowAt w v l) : Calls Try.prog 24 #[.agg #[.int .i64 B, .int .i64 R], v] w (Res (.tuple #[.bool (conformsR B R l).1, .int .i64 (conformsR B R l).2]) w) := by
  have HR := Lib.hid h
  clear h
  have k0 := Keep.alloc (Keep.refl w) (.cells #[.int .i64 B, .int .i64 R] 23)
  by_cases ho : okBk B R = true ∧ okT l = true
  · rw [conformsR_yes ho.1 ho.2]
    have HB := Lib.hid ho.1
    have HO := Lib.hid ho.2
    have HE : Hid (errR B R l = 0) := Lib.hid (by unfold errR; rw [if_pos ho.1, if_pos ho.2])
    obtain ⟨f, hf⟩ : ∃ f, fitsL B R l = f := ⟨_, rfl⟩
    rw [hf]
    have HF := Lib.hid hf
    clear ho hf
    go_enter Try.func24, Try.ntmps24
    go_wp2_with (first | (go_at_call 37; ((with_reducible refine (both_is B R _ v l _ (Lib.hid (HR.out.keep k0)) HE).mono ?_); rintro e w1 ⟨rfl, k1⟩; have c0 := k1.some (b := w.heap.size) (o := 0) (v := .int .i64 B) (by simp [go_sem]); have c1 := k1.some (b := w.heap.size) (o := 1) (v := .int .i64 R) (by simp [go_sem]))) | (go_at_call 36; ((with_reducible refine (fits_is B R _ v l _ HB HO (Lib.hid (HR.out.keep (k0.trans k1))) HF).mono ?_); rintro e w2 ⟨rfl, k2⟩)))
    go_ret2
    exact ⟨rfl, (k0.trans k1).trans k2⟩
  · rw [conformsR_no ho]
    obtain ⟨E, hE⟩ : ∃ E, errR B R l = E := ⟨_, rfl⟩
    have hz : (E == 0) = false := by
      rw [← hE]; unfold errR
      split
      · rename_i hb
        rw [if_neg (fun ht => ho ⟨hb, ht⟩)]; rfl
      · rfl
    have hz' : (E != 0) = true := by rw [bne, hz]; rfl
    rw [hE]
    have HE := Lib.hid hE
    clear ho hE
    go_enter Try.func24, Try.ntmps24
    go_wp2_with (go_at_call 37; ((with_reducible refine (both_is B R _ v l _ (Lib.hid (HR.out.keep k0)) HE).mono ?_); rintro e w1 ⟨rfl, k1⟩))
    go_ret2
    exact ⟨rfl, k0.trans k1⟩

theorem take_at {l : List (Int × Int)} {m k : Nat} (h : k < m) : atL (l.take m) k = atL l k ∧ szL (l.take m) k = szL l k := by
  unfold atL szL
  simp [List.getD, h]
theorem RowAt.take {w : World} {b off n cap m : Nat} {l : List (Int × Int)} (hl : l.length = n) (hc : n ≤ cap ∧ cap ≤ 9223372036854775807) (hm : m ≤ n) (h4 : ∀ j, j < n → w.cell? ⟨b, off + j * 2, none⟩ = some (.int .i64 (atL l j))) (h5 : ∀ j, j < n → w.cell? ⟨b, off + j * 2 + 1, none⟩ = some (.int .i64 (szL l j))) :
    RowAt w (.slice (some ⟨b, off, none⟩) m cap) (l.take m) :=
  Or.inr ⟨b, off, m, cap, rfl, by rw [List.length_take]; omega, by omega, fun j hj => by rw [(take_at hj).1]; exact h4 j (by omega), fun j hj => by rw [(take_at hj).2]; exact h5 j (by omega)⟩
theorem okT_take {l : List (Int × Int)} (h : okT l = true) (m : Nat) : okT (l.take m) = true := by
  obtain ⟨h1, h2⟩ := okT_iff.1 h
  refine okT_iff.2 ⟨by rw [List.length_take]; omega, okSteps_iff.2 fun k hk => ?_⟩
  rw [List.length_take] at hk
  have := okSteps_iff.1 h2 k (by omega)
  unfold okStep at this ⊢
  rw [decide_eq_true_eq] at this ⊢
  rw [(take_at (by omega)).1, (take_at (by omega)).2]
  cases k with
  | zero => exact this
  | succ k =>
    have e : prevAt (atL (l.take m)) (k + 1) = prevAt (atL l) (k + 1) := (take_at (by omega)).1
    rw [e]
    exact this
theorem fitsL_take {B R : Int} {l : List (Int × Int)} {m : Nat} (hm : m ≤ l.length) : fitsL B R (l.take m) = fitsB B R (atL l) (szL l) m := by
  unfold fitsL
  rw [List.length_take, Nat.min_eq_left hm]
  exact fitsB_congr (fun k hk => (take_at hk).1) (fun k hk => (take_at hk).2)

theorem slice_to (b off n cap k : Nat) (h : k + 1 ≤ cap) (w : World) : (Instr.slice 42 (.slice (some ⟨b, off, none⟩) n cap) none (some (.int .i64 ((k : Int) + 1))) none).run Try.prog w = .ok (.slice (some ⟨b, off, none⟩) (k + 1) cap) w := by
  rw [run_slice_h (ht := Try.underlying42) (h0 := by omega) (h2 := by omega)]
  have hc : ¬ cap = 0 := by omega
  have ht : ((k : Int) + 1).toNat = k + 1 := by omega
  simp [go_sem, hc, ht, Addr.add]

set_option maxHeartbeats 1000000 in
theorem refFirst_some (b off n cap : Nat) (l : List (Int × Int)) (B R : Int) (w : World) (hl : l.length = n) (hc : n ≤ cap ∧ cap ≤ 9223372036854775807) (hBk : okBk B R = true) (hok : okT l = true) (ha : ∀ j, j < n → w.cell? ⟨b, off + j * 2, none⟩ = some (.int .i64 (atL l j))) (hs : ∀ j, j < n → w.cell? ⟨b, off + j * 2 + 1, none⟩ = some (.int .i64 (szL l j)))
    (V : Int) (HV : Hid (firstL B R l = V)) : Calls Try.prog 26 #[.agg #[.int .i64 B, .int .i64 R], .slice (some ⟨b, off, none⟩) n cap] w (Res (.tuple #[.int .i64 V, .int .i64 0]) w) := by
  have k0 := Keep.alloc (Keep.refl w) (.cells #[.int .i64 B, .int .i64 R] 23)
  have HR : Hid (RowAt w (.slice (some ⟨b, off, none⟩) n cap) l) := Lib.hid (Or.inr ⟨b, off, n, cap, rfl, hl, hc, ha, hs⟩)
  have HT : Hid (∀ m, m ≤ n → RowAt w (.slice (some ⟨b, off, none⟩) m cap) (l.take m)) := Lib.hid fun m hm => RowAt.take hl hc hm ha hs
  have HE : Hid (errR B R l = 0) := Lib.hid (by unfold errR; rw [if_pos hBk, if_pos hok])
  have HB := Lib.hid hBk
  have HO : Hid (∀ m, okT (l.take m) = true) := Lib.hid (okT_take hok)
  have HF : Hid (∀ m, m ≤ n → fitsL B R (l.take m) = fitsB B R (atL l) (szL l) m) := Lib.hid fun m hm => fitsL_take (by omega)
  have h200 : n ≤ 200 := by have := (okT_iff.1 hok).1; omega
  have HW : Hid (firstIdx (fun k => !fitsB B R (atL l) (szL l) (k + 1)) n = V) := Lib.hid (by rw [← HV.out, ← hl]; exact (first_eq (atL_zero hok) (by have := okBk_iff.1 hBk; omega) _).symm)
  clear hBk hok ha hs hl
  go_enter Try.func26, Try.ntmps26
  go_wp2_with (go_at_call 37; ((with_reducible refine (both_is B R _ _ l _ (Lib.hid (HR.out.keep k0)) HE).mono ?_); rintro e w1 ⟨rfl, k1⟩; have c0 := k1.some (b := w.heap.size) (o := 0) (v := .int .i64 B) (by simp [go_sem]); have c1 := k1.some (b := w.heap.size) (o := 1) (v := .int .i64 R) (by simp [go_sem])))
  go_loopw [7] (fun s7 wr => ∃ k : Nat, k ≤ n ∧ s7 = .int .i64 k ∧ wr.cell? ⟨w.heap.size, 0, none⟩ = some (.int .i64 B) ∧ wr.cell? ⟨w.heap.size, 1, none⟩ = some (.int .i64 R) ∧ Hid (Keep w wr ∧ ∀ j, j < k → fitsB B R (atL l) (szL l) (j + 1) = true)) (fun i _ => n - (intOf i).toNat)
  case atStart => exact ⟨0, Nat.zero_le _, rfl, c0, c1, Lib.hid ⟨k0.trans k1, fun j hj => absurd hj (Nat.not_lt_zero _)⟩⟩
  case round =>
    obtain ⟨k, hk, rfl, e0, e1, HK⟩ := hrel
    by_cases hlt : k < n
    · have hcap : k + 1 ≤ cap := by omega
      have hw1 : IntKind.i64.wrap ((k : Int) + 1) = (k : Int) + 1 := IntWalk.i64_in _ (by omega)
      have hsl : ∀ w', (Instr.slice 42 (.slice (some ⟨b, off, none⟩) n cap) none (some (.int .i64 ((k : Int) + 1))) none).run Try.prog w' = .ok (.slice (some ⟨b, off, none⟩) (k + 1) cap) w' := slice_to b off n cap k hcap
      have hsa : ∀ w', (Instr.sliceAt 42 (.slice (some ⟨b, off, none⟩) n cap) none (some (.int .i64 ((k : Int) + 1))) none).run Try.prog w' = .ok (.slice (some ⟨b, off, none⟩) (k + 1) cap) w' := fun w' => by
        rw [run_sliceAt_slice (h := Try.underlying42)]; exact hsl w'
      cases hf : fitsB B R (atL l) (szL l) (k + 1) with
      | true =>
        have HG : Hid (fitsL B R (l.take (k + 1)) = true) := Lib.hid (by rw [HF.out _ (by omega)]; exact hf)
        have HP := Lib.hid hf
        clear hf
        go_wp2
        go_region_with (go_at_call 36; ((with_reducible refine (fits_is B R true _ (l.take (k + 1)) _ HB (Lib.hid (HO.out _)) (Lib.hid ((HT.out (k + 1) (by omega)).keep HK.out.1.drew)) HG).mono ?_); rintro e w2 ⟨rfl, k2⟩))
        all_goals go_wp2
        all_goals go_roundw
        case rel => exact ⟨k + 1, by omega, rfl, k2.some e0, k2.some e1, Lib.hid ⟨HK.out.1.drew.trans k2, fun j hj => by
          rcases Nat.lt_or_ge j k with h | h
          · exact HK.out.2 j h
          · obtain rfl : j = k := by omega
            exact HP.out⟩⟩
        case measure => simp [intOf]; omega
      | false =>
        have HG : Hid (fitsL B R (l.take (k + 1)) = false) := Lib.hid (by rw [HF.out _ (by omega)]; exact hf)
        have HP := Lib.hid hf
        clear hf
        go_wp2
        go_region_with (go_at_call 36; ((with_reducible refine (fits_is B R false _ (l.take (k + 1)) _ HB (Lib.hid (HO.out _)) (Lib.hid ((HT.out (k + 1) (by omega)).keep HK.out.1.drew)) HG).mono ?_); rintro e w2 ⟨rfl, k2⟩))
        all_goals go_wp2
        all_goals go_ret2
        exact ⟨by rw [← HW.out, firstIdx_some hlt (by rw [HP.out]; rfl) (fun j hj => by rw [HK.out.2 j hj]; rfl)]; rfl, HK.out.1.drew.trans k2⟩
    · obtain rfl : k = n := by omega
      go_wp2
      go_ret2
      exact ⟨by rw [← HW.out, firstIdx_none (fun j hj => by rw [HK.out.2 j hj]; rfl)]; rfl, HK.out.1⟩

theorem refFirst_nil (B R : Int) (w : World) (hBk : okBk B R = true) : Calls Try.prog 26 #[.agg #[.int .i64 B, .int .i64 R], .slice none 0 0] w (Res (.tuple #[.int .i64 (-1), .int .i64 0]) w) := by
  have k0 := Keep.alloc (Keep.refl w) (.cells #[.int .i64 B, .int .i64 R] 23)
  have HE : Hid (errR B R [] = 0) := Lib.hid (by unfold errR; rw [if_pos hBk]; rfl)
  have HR : ∀ w', Hid (RowAt w' (.slice none 0 0) []) := fun _ => Lib.hid (Or.inl ⟨rfl, rfl⟩)
  clear hBk
  go_enter Try.func26, Try.ntmps26
  go_wp2_with (go_at_call 37; ((with_reducible refine (both_is B R _ _ [] _ (HR _) HE).mono ?_); rintro e w1 ⟨rfl, k1⟩))
  go_loopw [7] (fun s7 wr => s7 = .int .i64 0 ∧ Hid (Keep w wr)) (fun i _ => 0)
  case atStart => exact ⟨rfl, Lib.hid (k0.trans k1)⟩
  case round =>
    obtain ⟨rfl, HK⟩ := hrel
    go_wp2
    go_ret2
    exact ⟨rfl, HK.out⟩
theorem refFirst_err (B R E : Int) (v : Value) (l : List (Int × Int)) (w : World) (h : RowAt w v l) (hE : errR B R l = E) (hz : (E == 0) = false) : Calls Try.prog 26 #[.agg #[.int .i64 B, .int .i64 R], v] w (Res (.tuple #[.int .i64 0, .int .i64 E]) w) := by
  have k0 := Keep.alloc (Keep.refl w) (.cells #[.int .i64 B, .int .i64 R] 23)
  have HR := Lib.hid h
  have HE := Lib.hid hE
  have hz' : (E != 0) = true := by rw [bne, hz]; rfl
  clear h hE
  go_enter Try.func26, Try.ntmps26
  go_wp2_with (go_at_call 37; ((with_reducible refine (both_is B R _ v l _ (Lib.hid (HR.out.keep k0)) HE).mono ?_); rintro e w1 ⟨rfl, k1⟩))
  go_ret2
  exact ⟨rfl, k0.trans k1⟩
theorem refFirst_any (B R : Int) (v : Value) (l : List (Int × Int)) (w : World) (h : RowAt w v l) : Calls Try.prog 26 #[.agg #[.int .i64 B, .int .i64 R], v] w (Two (firstR B R l) w) := by
  unfold firstR
  cases hb : okBk B R with
  | false =>
    rw [if_neg (by simp)]
    exact refFirst_err B R 130 v l w h (by unfold errR; rw [if_neg (by rw [hb]; simp)]) rfl
  | true =>
    rw [if_pos rfl]
    cases ht : okT l with
    | false =>
      rw [if_neg (by simp)]
      exact refFirst_err B R 131 v l w h (by unfold errR; rw [if_pos hb, if_neg (by rw [ht]; simp)]) rfl
    | true =>
      rw [if_pos rfl]
      rcases h with ⟨rfl, rfl⟩ | ⟨b, off, n, cap, rfl, h2, h3, h4, h5⟩
      · exact refFirst_nil B R w hb
      · exact refFirst_some b off n cap l B R w h2 h3 hb ht h4 h5 _ (Lib.hid rfl)

end Go.Proofs.Ytigogelabokpbaa
