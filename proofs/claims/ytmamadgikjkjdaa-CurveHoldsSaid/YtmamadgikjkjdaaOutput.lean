/- What Output of the package curve returns. -/
import Derived.Test.YtmamadgikjkjdaaDelay
namespace Go.Proofs.Ytmamadgikjkjdaa
open Go Go.RowKit

/-- Output's results. -/
def outputR (B S R L : Int) : (Int × Int) × Int :=
  if (delayR [(B, S)] R L).2 = 0 then (if okBk (B + ceilD (S * (delayR [(B, S)] R L).1) 1048576) S then ((B + ceilD (S * (delayR [(B, S)] R L).1) 1048576, S), 0) else ((0, 0), 6)) else ((0, 0), (delayR [(B, S)] R L).2)
theorem delayR_ok {l : List (Int × Int)} {R L : Int} (h : (delayR l R L).2 = 0) : flowE l R L = 0 ∧ (delayR l R L).1 = L + clearS l R := by
  unfold delayR at h ⊢
  split at h
  · rename_i hf
    rw [if_pos hf]
    exact ⟨hf, rfl⟩
  · contradiction
theorem slowAny_one {B S R : Int} (h : slowAny [(B, S)] R = true) : S ≤ R := by
  unfold slowAny anyN at h
  simpa [szL] using h
theorem clearS_one {B S R : Int} (hS : S ≤ R) (hR : 1 ≤ R) (hB : B ≤ 1048576) : clearS [(B, S)] R = ceilD (B * 1048576) R := by
  have h1 := slowD_le (B := B) hR hB
  have e : outerL (atL [(B, S)]) (szL [(B, S)]) R 1 1 = [ceilD (B * 1048576) R] := by
    have hn : ¬ R < S := by omega
    simp [outerL, innerL, atL, szL, hS, hn]
  show minL _ (outerL (atL [(B, S)]) (szL [(B, S)]) R 1 1) = _
  rw [e]
  show min 1125899906842624 (ceilD (B * 1048576) R) = _
  omega
set_option maxRecDepth 100000 in
set_option maxHeartbeats 2000000 in
theorem output_is (B S R L X Y E : Int) (w : World) (H : Hid (outputR B S R L = ((X, Y), E))) :
    Calls Try.prog 37 #[.agg #[.int .i64 B, .int .i64 S], .agg #[.int .i64 R, .int .i64 L]] w (Res (.tuple #[.agg #[.int .i64 X, .int .i64 Y], .int .i64 E]) w) := by
  have k0 := Keep.alloc (Keep.alloc (Keep.alloc (Keep.refl w) (.cells #[.int .i64 B, .int .i64 S] 30)) (.cells #[.int .i64 R, .int .i64 L] 54)) (.cells #[.int .i64 0, .int .i64 0] 30)
  have hrow : ∀ w' : World, w'.heap.size = w.heap.size + 1 + 1 + 1 → RowAt (w'.alloc (.cells #[.int .i64 B, .int .i64 S] 30)) (.slice (some ⟨w.heap.size + 1 + 1 + 1, 0, none⟩) 1 1) [(B, S)] := fun w' e => by rw [← e]; exact rowOne w' B S _
  have HRO := Lib.hid hrow
  clear hrow
  obtain ⟨d, e, hde⟩ : ∃ d e, delayR [(B, S)] R L = (d, e) := ⟨_, _, rfl⟩
  have HD := Lib.hid hde
  have hd := H.out
  unfold outputR at hd
  rw [hde] at hd
  dsimp only at hd
  by_cases hf : e = 0
  · subst hf
    rw [if_pos rfl] at hd
    have hok := delayR_ok (l := [(B, S)]) (R := R) (L := L) (by rw [hde])
    obtain ⟨hb, hsv, _⟩ := flowE_ok hok.1
    have hs := okSv_iff.1 hsv
    have bk := okBk_iff.1 (rowOne_ok hb)
    have hq := clearS_bd (R := R) (bucketsE_row hb).2.2 hs.1
    have hdd : d = L + clearS [(B, S)] R := by rw [← hok.2, hde]
    rename_i hsl
    have hcl := slowD_le (B := B) hs.1 bk.2.1
    rw [clearS_one (slowAny_one hsl) hs.1 bk.2.1] at hdd hq
    have bd : 0 ≤ d ∧ d ≤ 1099780063232 := by omega
    have hc := ceil_small (S := S) (L := d) (by omega) (by omega)
    have hc0 := ceilD_nonneg (n := S * d) (d := 1048576) (by omega) (Int.mul_nonneg (by omega) bd.1)
    obtain ⟨q, hq⟩ : ∃ q, ceilD (S * d) 1048576 = q := ⟨_, rfl⟩
    rw [hq] at hc hc0 hd
    have HQ := Lib.hid hq
    have HDD := Lib.hid hd
    clear hd hq hcl hdd hok hsl hsv hb hde H
    go_enter Try.func37, Try.ntmps37
    go_upto_region 4 with (go_at_call 33; ((with_reducible refine (delay_is (some ⟨w.heap.size + 1 + 1 + 1, 0, none⟩) 1 1 [(B, S)] R L d 0 _ (Lib.hid (HRO.out _ (by simp))) HD).mono ?_); rintro e w1 ⟨rfl, k1⟩; have b0 := k1.some (b := w.heap.size) (o := 0) (v := .int .i64 B) (by simp [go_sem]); have b1 := k1.some (b := w.heap.size) (o := 1) (v := .int .i64 S) (by simp [go_sem]); have r0 := k1.some (b := w.heap.size + 1 + 1) (o := 0) (v := .int .i64 0) (by simp [go_sem]); have r1 := k1.some (b := w.heap.size + 1 + 1) (o := 1) (v := .int .i64 0) (by simp [go_sem]); have z0 : w1.frozen? ⟨w.heap.size + 1 + 1, 0, none⟩ = false := (k1.frozen (by simp)).trans (by simp [go_sem]); have z1 : w1.frozen? ⟨w.heap.size + 1 + 1, 1, none⟩ = false := (k1.frozen (by simp)).trans (by simp [go_sem])))
    have kk := Lib.hid ((k0.alloc (.cells #[.int .i64 B, .int .i64 S] 30)).trans k1)
    clear k0 k1 HD HRO
    refine region_inv (J := fun bb aa wx => ∃ v8 v20 v21 v22 v23 v24 v25 : Value, aa = ⟨#[Value.agg #[Value.int IntKind.i64 B, Value.int IntKind.i64 S], Value.agg #[Value.int IntKind.i64 R, Value.int IntKind.i64 L], Value.pointer (some { block := w.heap.size, off := 0 }), Value.pointer (some { block := w.heap.size + 1, off := 0 }), Value.pointer (some { block := w.heap.size + 1 + 1, off := 0 }), Value.int IntKind.i64 0, Value.int IntKind.i64 d, Value.int IntKind.i64 0, v8, Value.tuple #[Value.int IntKind.i64 d, Value.int IntKind.i64 0], Value.agg #[Value.int IntKind.i64 B, Value.int IntKind.i64 S], Value.slice (some { block := w.heap.size + 1 + 1 + 1, off := 0 }) 1 1, Value.agg #[Value.int IntKind.i64 R, Value.int IntKind.i64 L], Value.tuple #[Value.int IntKind.i64 d, Value.int IntKind.i64 0], Value.int IntKind.i64 d, Value.int IntKind.i64 0, Value.int IntKind.i64 0, Value.bool false, undef, undef, v20, v21, v22, v23, v24, v25, undef, undef, undef, undef, undef], []⟩ ∧ Keep w1 wx ∧ (bb 0 → v20 = .agg #[.int .i64 B, .int .i64 S]) ∧ (bb 1 → v21 = .int .i64 d) ∧ (bb 2 → v22 = .int .i64 (B + q)) ∧ (bb 3 → v23 = .pointer (some ⟨w.heap.size, 1, none⟩)) ∧ (bb 4 → v24 = .int .i64 S) ∧ (bb 5 → v25 = .agg #[.int .i64 (B + q), .int .i64 S]) ∧ (bb 6 → VarAt w1 wx v8 (bb 7) (.int .i64 (B + q)) (.int .i64 S)) ∧ (bb 7 → bb 6)) (by kernel_rfl) (by kernel_rfl) ?donex ?startx ?stepsx
    case donex =>
      rintro bb aa wx hb ⟨v8, v20, v21, v22, v23, v24, v25, rfl, G, f0, f1, f2, f3, f4, f5, f6, f7⟩
      replace hb : ∀ k, k < 8 → bb k := fun k hk => hb k hk
      have g0 := f0 (hb 0 (by decide))
      have g1 := f1 (hb 1 (by decide))
      have g2 := f2 (hb 2 (by decide))
      have g3 := f3 (hb 3 (by decide))
      have g4 := f4 (hb 4 (by decide))
      have g5 := f5 (hb 5 (by decide))
      have g6 := f6 (hb 6 (by decide))
      clear f0 f1 f2 f3 f4 f5 f6 f7
      obtain rfl := g0
      obtain rfl := g1
      obtain rfl := g2
      obtain rfl := g3
      obtain rfl := g4
      obtain rfl := g5
      obtain ⟨X6, x6, y6, rfl, hX6, ⟨hc6, hd6⟩, ⟨hf6, hg6⟩, hs6⟩ := g6
      obtain ⟨rfl, rfl⟩ := hs6 (hb 7 (by decide))
      have kk := Lib.hid (kk.out.trans G)
      have hd := HDD.out
      have r0' := G.some r0
      have r1' := G.some r1
      have z0' := (G.frozen (cellBlock r0)).trans z0
      have z1' := (G.frozen (cellBlock r1)).trans z1
      clear r0 r1 z0 z1 b0 b1 hb
      cases ho : okBk (B + q) S with
      | true =>
        rw [ho, if_pos rfl] at hd
        obtain ⟨rfl, rfl, rfl⟩ : B + q = X ∧ S = Y ∧ 0 = E := by cases hd; exact ⟨rfl, rfl, rfl⟩
        have HC : Hid (checkE (B + q) S = 0) := Lib.hid (by unfold checkE; rw [ho]; rfl)
        clear hd ho
        go_wp2_with (go_at_call 24; ((with_reducible refine (check_is (B + q) S _ _ HC).mono ?_); rintro _ w3 ⟨rfl, k3⟩; have x0 := k3.some hc6; have x1 := k3.some hd6; have r2 := k3.some r0'; have r3 := k3.some r1'; have z2 := (k3.frozen (cellBlock r0')).trans z0'; have z3 := (k3.frozen (cellBlock r1')).trans z1'))
        exact bodyPost_ret (v := .tuple #[.agg #[.int .i64 (B + q), .int .i64 S], .int .i64 0]) (by simp [results, Try.results37, go_sem, r2, r3]) rfl ⟨rfl, ((kk.out.trans k3).setCell (by simp; omega) _).setCell (by simp; omega) _⟩
      | false =>
        rw [ho] at hd
        obtain ⟨rfl, rfl, rfl⟩ : 0 = X ∧ 0 = Y ∧ 6 = E := by cases hd; exact ⟨rfl, rfl, rfl⟩
        have HC : Hid (checkE (B + q) S = 130) := Lib.hid (by unfold checkE; rw [ho]; rfl)
        clear hd ho
        go_wp2_with (go_at_call 24; ((with_reducible refine (check_is (B + q) S _ _ HC).mono ?_); rintro _ w3 ⟨rfl, k3⟩; have r2 := k3.some r0'; have r3 := k3.some r1'; have z2 := (k3.frozen (cellBlock r0')).trans z0'; have z3 := (k3.frozen (cellBlock r1')).trans z1'))
        exact bodyPost_ret (v := .tuple #[.agg #[.int .i64 0, .int .i64 0], .int .i64 6]) (by simp [results, Try.results37, go_sem, r2, r3]) rfl ⟨rfl, ((kk.out.trans k3).setCell (by simp; omega) _).setCell (by simp; omega) _⟩
    case startx => exact ⟨_, _, _, _, _, _, _, rfl, Keep.drew (Keep.refl _), fun h => h.elim, fun h => h.elim, fun h => h.elim, fun h => h.elim, fun h => h.elim, fun h => h.elim, fun h => h.elim, fun h => h.elim⟩
    case stepsx =>
      refine StepsFrom.cons (k := 0) ?_ (StepsFrom.cons (k := 1) ?_ (StepsFrom.cons (k := 2) ?_ (StepsFrom.cons (k := 3) ?_ (StepsFrom.cons (k := 4) ?_ (StepsFrom.cons (k := 5) ?_ (StepsFrom.cons (k := 6) ?_ (StepsFrom.cons (k := 7) ?_ (StepsFrom.nil))))))))
      · -- 0: val
        rintro bb aa wx hn hd ⟨v8, v20, v21, v22, v23, v24, v25, rfl, G, f0, f1, f2, f3, f4, f5, f6, f7⟩ K hK
        have k0 := G.some b0
        have k1 := G.some b1
        have HK := Lib.hid hK
        clear hK
        go_simp
        exact HK.out _ _ ⟨_, _, _, _, _, _, _, rfl, G, fun _ => rfl, up (by decide) f1, up (by decide) f2, up (by decide) f3, up (by decide) f4, up (by decide) f5, fun h => (f6 (down (by decide) h)).step (Keep.refl _) (down (by decide)), fun h => Or.inr (f7 (down (by decide) h))⟩
      · -- 1: val
        rintro bb aa wx hn hd ⟨v8, v20, v21, v22, v23, v24, v25, rfl, G, f0, f1, f2, f3, f4, f5, f6, f7⟩ K hK
        have HK := Lib.hid hK
        clear hK
        go_simp
        exact HK.out _ _ ⟨_, _, _, _, _, _, _, rfl, G, up (by decide) f0, fun _ => rfl, up (by decide) f2, up (by decide) f3, up (by decide) f4, up (by decide) f5, fun h => (f6 (down (by decide) h)).step (Keep.refl _) (down (by decide)), fun h => Or.inr (f7 (down (by decide) h))⟩
      · -- 2: val
        rintro bb aa wx hn hd ⟨v8, v20, v21, v22, v23, v24, v25, rfl, G, f0, f1, f2, f3, f4, f5, f6, f7⟩ K hK
        have b0 : bb 0 := hd ⟨0, .data⟩ (by simp) (by rfl)
        obtain rfl := f0 b0
        have b1 : bb 1 := hd ⟨1, .data⟩ (by simp) (by rfl)
        obtain rfl := f1 b1
        have HK := Lib.hid hK
        clear hK
        go_wp2_with (go_at_call 61; ((with_reducible refine (limit_is B S d q _ (by omega) (by omega) (by omega) hc HQ).mono ?_); rintro _ w2 ⟨rfl, hk⟩))
        exact HK.out _ _ ⟨_, _, _, _, _, _, _, rfl, (G.trans hk), fun _ => rfl, fun _ => rfl, fun _ => rfl, up (by decide) f3, up (by decide) f4, up (by decide) f5, fun h => (f6 (down (by decide) h)).step hk (down (by decide)), fun h => Or.inr (f7 (down (by decide) h))⟩
      · -- 3: val
        rintro bb aa wx hn hd ⟨v8, v20, v21, v22, v23, v24, v25, rfl, G, f0, f1, f2, f3, f4, f5, f6, f7⟩ K hK
        have HK := Lib.hid hK
        clear hK
        go_simp
        exact HK.out _ _ ⟨_, _, _, _, _, _, _, rfl, G, up (by decide) f0, up (by decide) f1, up (by decide) f2, fun _ => rfl, up (by decide) f4, up (by decide) f5, fun h => (f6 (down (by decide) h)).step (Keep.refl _) (down (by decide)), fun h => Or.inr (f7 (down (by decide) h))⟩
      · -- 4: val
        rintro bb aa wx hn hd ⟨v8, v20, v21, v22, v23, v24, v25, rfl, G, f0, f1, f2, f3, f4, f5, f6, f7⟩ K hK
        have b3 : bb 3 := hd ⟨3, .data⟩ (by simp) (by rfl)
        obtain rfl := f3 b3
        have k0 := G.some b1
        have HK := Lib.hid hK
        clear hK
        go_simp
        exact HK.out _ _ ⟨_, _, _, _, _, _, _, rfl, G, up (by decide) f0, up (by decide) f1, up (by decide) f2, fun _ => rfl, fun _ => rfl, up (by decide) f5, fun h => (f6 (down (by decide) h)).step (Keep.refl _) (down (by decide)), fun h => Or.inr (f7 (down (by decide) h))⟩
      · -- 5: val
        rintro bb aa wx hn hd ⟨v8, v20, v21, v22, v23, v24, v25, rfl, G, f0, f1, f2, f3, f4, f5, f6, f7⟩ K hK
        have b2 : bb 2 := hd ⟨2, .data⟩ (by simp) (by rfl)
        obtain rfl := f2 b2
        have b4 : bb 4 := hd ⟨4, .data⟩ (by simp) (by rfl)
        obtain rfl := f4 b4
        have HK := Lib.hid hK
        clear hK
        go_simp
        exact HK.out _ _ ⟨_, _, _, _, _, _, _, rfl, G, up (by decide) f0, up (by decide) f1, fun _ => rfl, up (by decide) f3, fun _ => rfl, fun _ => rfl, fun h => (f6 (down (by decide) h)).step (Keep.refl _) (down (by decide)), fun h => Or.inr (f7 (down (by decide) h))⟩
      · -- 6: alloc
        rintro bb aa wx hn hd ⟨v8, v20, v21, v22, v23, v24, v25, rfl, G, f0, f1, f2, f3, f4, f5, f6, f7⟩ K hK
        have HK := Lib.hid hK
        clear hK
        go_simp
        exact HK.out _ _ ⟨_, _, _, _, _, _, _, rfl, (G.trans (Keep.alloc (Keep.refl _) _)), up (by decide) f0, up (by decide) f1, up (by decide) f2, up (by decide) f3, up (by decide) f4, up (by decide) f5, fun _ => VarAt.new G (fun h => hn (f7 (h.resolve_left (by decide)))), fun _ => Or.inl rfl⟩
      · -- 7: store
        rintro bb aa wx hn hd ⟨v8, v20, v21, v22, v23, v24, v25, rfl, G, f0, f1, f2, f3, f4, f5, f6, f7⟩ K hK
        have b5 : bb 5 := hd ⟨5, .data⟩ (by simp) (by rfl)
        obtain rfl := f5 b5
        have b6 : bb 6 := hd ⟨6, .data⟩ (by simp) (by rfl)
        obtain ⟨X, c0, c1, rfl, hX, ⟨hc0, hc1⟩, ⟨hf0, hf1⟩, -⟩ := f6 b6
        have HK := Lib.hid hK
        clear hK
        go_simp
        exact HK.out _ _ ⟨_, _, _, _, _, _, _, rfl, ((G.setCell hX _).setCell hX _), up (by decide) f0, up (by decide) f1, up (by decide) f2, up (by decide) f3, up (by decide) f4, fun _ => rfl, fun _ => VarAt.here hX hc0 hc1 hf0 hf1, fun _ => Or.inr b6⟩
  · rw [if_neg hf] at hd
    obtain ⟨rfl, rfl, rfl⟩ : X = 0 ∧ Y = 0 ∧ E = e := by cases hd; exact ⟨rfl, rfl, rfl⟩
    have e1 : (E == 0) = false := by simp [hf]
    have e2 : (E != 0) = true := by simp [hf]
    clear hd H
    go_enter Try.func37, Try.ntmps37
    go_wp2_with (go_at_call 33; ((with_reducible refine (delay_is (some ⟨w.heap.size + 1 + 1 + 1, 0, none⟩) 1 1 [(B, S)] R L d E _ (Lib.hid (HRO.out _ (by simp))) HD).mono ?_); rintro e w1 ⟨rfl, k1⟩; have r0 := k1.some (b := w.heap.size + 1 + 1) (o := 0) (v := .int .i64 0) (by simp [go_sem]); have r1 := k1.some (b := w.heap.size + 1 + 1) (o := 1) (v := .int .i64 0) (by simp [go_sem]); have z0 : w1.frozen? ⟨w.heap.size + 1 + 1, 0, none⟩ = false := (k1.frozen (by simp)).trans (by simp [go_sem]); have z1 : w1.frozen? ⟨w.heap.size + 1 + 1, 1, none⟩ = false := (k1.frozen (by simp)).trans (by simp [go_sem])))
    exact bodyPost_ret (v := .tuple #[.agg #[.int .i64 0, .int .i64 0], .int .i64 E]) (by simp [results, Try.results37, go_sem, r0, r1]) rfl ⟨rfl, (((k0.alloc _).trans k1).setCell (by simp; omega) _).setCell (by simp; omega) _⟩

end Go.Proofs.Ytmamadgikjkjdaa
