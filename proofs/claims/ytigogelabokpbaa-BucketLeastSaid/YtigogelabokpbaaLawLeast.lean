/- BucketLeast's walk: a trace conforms with the least burst, with every greater one, and with no smaller one; a greater rate needs no greater burst. Written by genleast.py. -/
import Derived.Test.YtigogelabokpbaaLawLevels
namespace Go.Proofs.Ytigogelabokpbaa
open Go Go.RowKit

theorem RowAt.store1 {w : World} {v x : Value} {X o : Nat} {l : List (Int × Int)} (h : RowAt w v l) (ho : Off (.pointer (some ⟨X, 0, none⟩)) v) : RowAt (w.setCell ⟨X, o, none⟩ x) v l := by
  rcases h with h | ⟨b, off, n, cap, rfl, h2, h3, h4, h5⟩
  · exact Or.inl h
  · refine Or.inr ⟨b, off, n, cap, rfl, h2, h3, fun j hj => ?_, fun j hj => ?_⟩
    · have hne : ¬ X = b := fun e => ho X b off n cap rfl rfl (by omega) e.symm
      rw [World.cell?_setCell_far _ _ _ _ hne]; exact h4 j hj
    · have hne : ¬ X = b := fun e => ho X b off n cap rfl rfl (by omega) e.symm
      rw [World.cell?_setCell_far _ _ _ _ hne]; exact h5 j hj
theorem need_mono {R R' : Int} {a s : Nat → Int} {i j : Nat} (hR : R ≤ R') (ha : a i ≤ a j) : need R' a s i j ≤ need R a s i j := by
  unfold need
  have : R * (a j - a i) ≤ R' * (a j - a i) := Int.mul_le_mul_of_nonneg_right hR (by omega)
  omega
theorem leastL_mono {R R' : Int} {l : List (Int × Int)} (ht : okT l = true) (hR : R ≤ R') : leastL R' l ≤ leastL R l := by
  unfold leastL
  rw [leastS_le]
  have h := leastS_le.1 (Int.le_refl (leastS R (atL l) (szL l) l.length))
  exact ⟨h.1, fun j hj i hi => Int.le_trans (need_mono hR (okSteps_mono (okT_iff.1 ht).2 j hj i hi)) (h.2 j hj i hi)⟩
theorem leastR_yes {R : Int} {l : List (Int × Int)} (hR : 1 ≤ R ∧ R ≤ 2097152) (ht : okT l = true) (h : leastL R l ≤ 1048576) : leastR R l = (leastL R l, 0) := by
  unfold leastR
  rw [if_pos hR, if_pos ht, if_pos h]
theorem leastR_big {R : Int} {l : List (Int × Int)} (hR : 1 ≤ R ∧ R ≤ 2097152) (ht : okT l = true) (h : ¬ leastL R l ≤ 1048576) : leastR R l = (0, 6) := by
  unfold leastR
  rw [if_pos hR, if_pos ht, if_neg h]
theorem fitsV_least {B R : Int} {l : List (Int × Int)} (hb : okBk B R = true) (ht : okT l = true) : fitsV B R l = decide (leastL R l ≤ B) := by
  unfold fitsV fitsL leastL
  rw [hb, ht, Bool.true_and, Bool.true_and, Bool.eq_iff_iff, fitsB_least (by have := okBk_iff.1 hb; omega), decide_eq_true_eq]

set_option maxRecDepth 100000 in
set_option maxHeartbeats 8000000 in
theorem least_walk (B R : Int) (ga sa : Option Addr) (gl gc sl sc : Nat) (gs ss : List Int) (e Y2 : Int) (w : World) (hD : Hid (DraftAt w (.agg #[.int .u32 B, .int .u32 R, .slice ga gl gc, .slice sa sl sc]) B R gs ss)) (X Y : Int) (HX : Hid (bOf B = X)) (HY : Hid (rOf R = Y)) (l : List (Int × Int)) (Hl : Hid (traceD gs ss (min ss.length 30) = l)) (Hok : Hid (okT l = true)) (Hb : Hid (okBk X Y = true)) (_hlen30 : l.length ≤ 30) (he : 0 ≤ e ∧ e ≤ 65535) (hY2 : min (Y + e) 2097152 = Y2) :
    Calls Try.prog 7 #[.agg #[.int .u32 B, .int .u32 R, .slice ga gl gc, .slice sa sl sc], .int .u16 e] w (Res (.bool true) w) := by
  have d0 : (w.alloc (.cells #[.int .u32 B, .int .u32 R, .slice ga gl gc, .slice sa sl sc] 27)).cell? ⟨w.heap.size, 0, none⟩ = some (.int .u32 B) := by simp [go_sem]
  have d1 : (w.alloc (.cells #[.int .u32 B, .int .u32 R, .slice ga gl gc, .slice sa sl sc] 27)).cell? ⟨w.heap.size, 1, none⟩ = some (.int .u32 R) := by simp [go_sem]
  have d2 : (w.alloc (.cells #[.int .u32 B, .int .u32 R, .slice ga gl gc, .slice sa sl sc] 27)).cell? ⟨w.heap.size, 2, none⟩ = some (.slice ga gl gc) := by simp [go_sem]
  have d3 : (w.alloc (.cells #[.int .u32 B, .int .u32 R, .slice ga gl gc, .slice sa sl sc] 27)).cell? ⟨w.heap.size, 3, none⟩ = some (.slice sa sl sc) := by simp [go_sem]
  have KK := Lib.hid (Keep.alloc (Keep.refl w) (.cells #[.int .u32 B, .int .u32 R, .slice ga gl gc, .slice sa sl sc] 27))
  have HD := Lib.hid (hD.out.keep KK.out)
  clear hD
  go_enter Try.func7, Try.ntmps7
  go_upto_region 3 with ((go_at_call 21; ((with_reducible refine (works_yes _).mono ?_); rintro _ w1 ⟨rfl, hk⟩; have KK := Lib.hid (KK.out.trans hk); have d0 := hk.some d0; have d1 := hk.some d1; have d2 := hk.some d2; have d3 := hk.some d3; have HD := Lib.hid (HD.out.keep hk))))
  obtain ⟨W0, hW0⟩ : ∃ W0, w1 = W0 := ⟨_, rfl⟩
  rw [hW0] at d0 d1 d2 d3 KK HD ⊢
  clear hW0
  have KK0 := Lib.hid KK.out
  refine region_inv (J := fun bb aa ww => ∃ v5 v6 v13 v14 v15 v16 : Value, aa = ⟨#[Value.agg #[Value.int IntKind.u32 B, Value.int IntKind.u32 R, Value.slice ga gl gc, Value.slice sa sl sc], Value.int IntKind.u16 e, Value.pointer (some { block := w.heap.size, off := 0 }), undef, Value.bool false, v5, v6, undef, undef, undef, undef, Value.bool true, Value.bool false, v13, v14, v15, v16, undef, undef, undef, undef, undef, undef, undef, undef, undef, undef, undef, undef, undef, undef, undef, undef, undef, undef, undef, undef, undef, undef, undef, undef, undef, undef, undef, undef, undef, undef, undef, undef, undef, undef, undef, undef, undef, undef, undef, undef, undef, undef, undef, undef, undef, undef, undef, undef, undef, undef, undef, undef, undef, undef, undef, undef, undef, undef, undef, undef, undef, undef, undef, undef, undef], []⟩ ∧ Keep W0 ww ∧ (bb 0 → v13 = .agg #[.int .u32 B, .int .u32 R, .slice ga gl gc, .slice sa sl sc]) ∧ (bb 1 → v14 = .agg #[.int .i64 X, .int .i64 Y]) ∧ (bb 2 → v15 = .agg #[.int .u32 B, .int .u32 R, .slice ga gl gc, .slice sa sl sc]) ∧ (bb 3 → RowAt ww v16 (l)) ∧ (bb 4 → VarAt W0 ww v5 (bb 5) (.int .i64 X) (.int .i64 Y)) ∧ (bb 5 → bb 4) ∧ (bb 6 → bb 3 ∧ v6 = v16) ∧ (bb 4 → bb 3 → Off v5 v16)) (by kernel_rfl) (by kernel_rfl) ?donew ?startw ?stepsw
  case donew =>
    rintro bb aa ww hb ⟨v5, v6, v13, v14, v15, v16, rfl, G, f0, f1, f2, f3, f4, f5, f6, o4_3⟩
    have g0 := f0 (hb 0 (by decide))
    have g1 := f1 (hb 1 (by decide))
    have g2 := f2 (hb 2 (by decide))
    have g3 := f3 (hb 3 (by decide))
    have g4 := f4 (hb 4 (by decide))
    have g6 := f6 (hb 6 (by decide))
    have p4_3 := o4_3 (hb 4 (by decide)) (hb 3 (by decide))
    obtain rfl := g0
    obtain rfl := g1
    obtain rfl := g2
    obtain ⟨-, rfl⟩ := g6
    obtain ⟨X4, x4, y4, rfl, hX4, ⟨hc4, hd4⟩, ⟨hf4, hg4⟩, hs4⟩ := g4
    obtain ⟨rfl, rfl⟩ := hs4 (hb 5 (by decide))
    clear f0 f1 f2 f3 f4 f5 f6 o4_3
    have KK := Lib.hid (KK.out.trans G)
    have RW := Lib.hid g3
    obtain ⟨a1, c1, rfl, -⟩ := g3.form
    have HOFF := Lib.hid p4_3
    have hXw : w.heap.size ≤ X4 := Nat.le_trans KK0.out.size hX4
    have x0 := hc4
    have x1 := hd4
    have f0 := hf4
    have bk := okBk_iff.1 Hb.out
    clear hb g3 p4_3 hs4 HD d0 d1 d2 d3 hc4 hd4 hf4 hg4 KK0 G
    have hy2 : 1 ≤ Y2 ∧ Y2 ≤ 2097152 ∧ Y ≤ Y2 := by omega
    by_cases hbig : leastL Y l ≤ 1048576
    · obtain ⟨n, hn⟩ : ∃ n, leastL Y l = n := ⟨_, rfl⟩
      obtain ⟨m, hm⟩ : ∃ m, leastL Y2 l = m := ⟨_, rfl⟩
      have n1 : 1 ≤ n := by rw [← hn]; exact leastS_one _ _ _ _
      have m1 : 1 ≤ m := by rw [← hm]; exact leastS_one _ _ _ _
      have mn : m ≤ n := by rw [← hm, ← hn]; exact leastL_mono Hok.out hy2.2.2
      rw [hn] at hbig
      have F1 : Hid (leastR Y l = (n, 0)) := Lib.hid (by rw [leastR_yes bk.2.2 Hok.out (by omega), hn])
      have F2 : Hid (leastR Y2 l = (m, 0)) := Lib.hid (by rw [leastR_yes ⟨hy2.1, hy2.2.1⟩ Hok.out (by omega), hm])
      have G1 : Hid (fitsV n Y l = true) := Lib.hid (by rw [fitsV_least (okBk_iff.2 (by omega)) Hok.out, hn]; simp)
      obtain ⟨N2, hN2⟩ : ∃ N2, min (n + e) 1048576 = N2 := ⟨_, rfl⟩
      have G2 : Hid (fitsV N2 Y l = true) := Lib.hid (by rw [fitsV_least (okBk_iff.2 (by omega)) Hok.out, hn]; simp; omega)
      by_cases h1 : n = 1
      · have h1' : (n == 1) = true := by simp [h1]
        clear hn hm h1
        go_wp2_with (first | (go_at_call 27; ((with_reducible refine (least_is Y _ l n 0 _ RW F1).mono ?_); rintro _ w1 ⟨rfl, hk⟩; have f0 := (hk.frozen (cellBlock x0)).trans f0; have x0 := hk.some x0; have x1 := hk.some x1; have RW := Lib.hid (RW.out.keep hk); have KK := Lib.hid (KK.out.trans hk))) | (go_at_call 27; ((with_reducible refine (least_is Y2 _ l m 0 _ RW F2).mono ?_); rintro _ w1 ⟨rfl, hk⟩; have f0 := (hk.frozen (cellBlock x0)).trans f0; have x0 := hk.some x0; have x1 := hk.some x1; have RW := Lib.hid (RW.out.keep hk); have KK := Lib.hid (KK.out.trans hk))) | (go_at_call 30; ((with_reducible refine (lawFits_any (n) Y _ l _ (Lib.hid (RW.out.store1 HOFF.out)) true G1).mono ?_); rintro _ w1 ⟨rfl, hk⟩; have f0 := (hk.frozen (by have := cellBlock x0; simpa [World.setCell] using this)).trans ((World.frozen?_setCell _ _ _ _).trans f0); have x0 := hk.some (World.cell?_setCell_same' _ ⟨X4, 0, none⟩ (.int .i64 (n)) (by rw [x0]; rfl)); have x1 := hk.some (b := X4) (o := 1) (v := .int .i64 Y) (by simp [go_sem, x1]); have KK := Lib.hid ((KK.out.setCell hXw _).trans hk); have RW := Lib.hid ((RW.out.store1 HOFF.out).keep hk))) | (go_at_call 30; ((with_reducible refine (lawFits_any (N2) Y _ l _ (Lib.hid (RW.out.store1 HOFF.out)) true G2).mono ?_); rintro _ w1 ⟨rfl, hk⟩; have f0 := (hk.frozen (by have := cellBlock x0; simpa [World.setCell] using this)).trans ((World.frozen?_setCell _ _ _ _).trans f0); have x0 := hk.some (World.cell?_setCell_same' _ ⟨X4, 0, none⟩ (.int .i64 (N2)) (by rw [x0]; rfl)); have x1 := hk.some (b := X4) (o := 1) (v := .int .i64 Y) (by simp [go_sem, x1]); have KK := Lib.hid ((KK.out.setCell hXw _).trans hk); have RW := Lib.hid ((RW.out.store1 HOFF.out).keep hk))))
        go_ret
        exact ⟨rfl, by first | exact KK.out | exact KK.out.setCell hXw _⟩
      · have h1' : (n == 1) = false := by simp [h1]
        have G3 : Hid (fitsV (n - 1) Y l = false) := Lib.hid (by rw [fitsV_least (okBk_iff.2 (by omega)) Hok.out, hn]; simp; omega)
        clear hn hm h1
        go_wp2_with (first | (go_at_call 27; ((with_reducible refine (least_is Y _ l n 0 _ RW F1).mono ?_); rintro _ w1 ⟨rfl, hk⟩; have f0 := (hk.frozen (cellBlock x0)).trans f0; have x0 := hk.some x0; have x1 := hk.some x1; have RW := Lib.hid (RW.out.keep hk); have KK := Lib.hid (KK.out.trans hk))) | (go_at_call 27; ((with_reducible refine (least_is Y2 _ l m 0 _ RW F2).mono ?_); rintro _ w1 ⟨rfl, hk⟩; have f0 := (hk.frozen (cellBlock x0)).trans f0; have x0 := hk.some x0; have x1 := hk.some x1; have RW := Lib.hid (RW.out.keep hk); have KK := Lib.hid (KK.out.trans hk))) | (go_at_call 30; ((with_reducible refine (lawFits_any (n) Y _ l _ (Lib.hid (RW.out.store1 HOFF.out)) true G1).mono ?_); rintro _ w1 ⟨rfl, hk⟩; have f0 := (hk.frozen (by have := cellBlock x0; simpa [World.setCell] using this)).trans ((World.frozen?_setCell _ _ _ _).trans f0); have x0 := hk.some (World.cell?_setCell_same' _ ⟨X4, 0, none⟩ (.int .i64 (n)) (by rw [x0]; rfl)); have x1 := hk.some (b := X4) (o := 1) (v := .int .i64 Y) (by simp [go_sem, x1]); have KK := Lib.hid ((KK.out.setCell hXw _).trans hk); have RW := Lib.hid ((RW.out.store1 HOFF.out).keep hk))) | (go_at_call 30; ((with_reducible refine (lawFits_any (N2) Y _ l _ (Lib.hid (RW.out.store1 HOFF.out)) true G2).mono ?_); rintro _ w1 ⟨rfl, hk⟩; have f0 := (hk.frozen (by have := cellBlock x0; simpa [World.setCell] using this)).trans ((World.frozen?_setCell _ _ _ _).trans f0); have x0 := hk.some (World.cell?_setCell_same' _ ⟨X4, 0, none⟩ (.int .i64 (N2)) (by rw [x0]; rfl)); have x1 := hk.some (b := X4) (o := 1) (v := .int .i64 Y) (by simp [go_sem, x1]); have KK := Lib.hid ((KK.out.setCell hXw _).trans hk); have RW := Lib.hid ((RW.out.store1 HOFF.out).keep hk))) | (go_at_call 30; ((with_reducible refine (lawFits_any (n - 1) Y _ l _ (Lib.hid (RW.out.store1 HOFF.out)) false G3).mono ?_); rintro _ w1 ⟨rfl, hk⟩; have f0 := (hk.frozen (by have := cellBlock x0; simpa [World.setCell] using this)).trans ((World.frozen?_setCell _ _ _ _).trans f0); have x0 := hk.some (World.cell?_setCell_same' _ ⟨X4, 0, none⟩ (.int .i64 (n - 1)) (by rw [x0]; rfl)); have x1 := hk.some (b := X4) (o := 1) (v := .int .i64 Y) (by simp [go_sem, x1]); have KK := Lib.hid ((KK.out.setCell hXw _).trans hk); have RW := Lib.hid ((RW.out.store1 HOFF.out).keep hk))))
        go_ret
        exact ⟨rfl, by first | exact KK.out | exact KK.out.setCell hXw _⟩
    · obtain ⟨⟨q2, E2⟩, h2⟩ : ∃ r, leastR Y2 l = r := ⟨_, rfl⟩
      have F1 : Hid (leastR Y l = (0, 6)) := Lib.hid (leastR_big bk.2.2 Hok.out hbig)
      have F2 := Lib.hid h2
      have hl0 : 0 < l.length := by
        rcases Nat.eq_zero_or_pos l.length with h | h
        · exfalso; apply hbig; unfold leastL; rw [h]; simp [leastS]
        · exact h
      have hl1 : (0 : Int) < (l.length : Int) := by omega
      clear h2 hbig
      go_wp2_with (first | (go_at_call 27; ((with_reducible refine (least_is Y _ l 0 6 _ RW F1).mono ?_); rintro _ w1 ⟨rfl, hk⟩; have f0 := (hk.frozen (cellBlock x0)).trans f0; have x0 := hk.some x0; have x1 := hk.some x1; have RW := Lib.hid (RW.out.keep hk); have KK := Lib.hid (KK.out.trans hk))) | (go_at_call 27; ((with_reducible refine (least_is Y2 _ l q2 E2 _ RW F2).mono ?_); rintro _ w1 ⟨rfl, hk⟩; have f0 := (hk.frozen (cellBlock x0)).trans f0; have x0 := hk.some x0; have x1 := hk.some x1; have RW := Lib.hid (RW.out.keep hk); have KK := Lib.hid (KK.out.trans hk))))
      go_ret
      exact ⟨rfl, KK.out⟩
  case startw => exact ⟨_, _, _, _, _, _, rfl, Keep.drew (Keep.refl _), fun h => h.elim, fun h => h.elim, fun h => h.elim, fun h => h.elim, fun h => h.elim, fun h => h.elim, fun h => h.elim, fun h => h.elim⟩
  case stepsw =>
    refine StepsFrom.cons (k := 0) ?_ (StepsFrom.cons (k := 1) ?_ (StepsFrom.cons (k := 2) ?_ (StepsFrom.cons (k := 3) ?_ (StepsFrom.cons (k := 4) ?_ (StepsFrom.cons (k := 5) ?_ (StepsFrom.cons (k := 6) ?_ (StepsFrom.nil)))))))
    · -- 0: val
      rintro bb aa ww hn hd ⟨v5, v6, v13, v14, v15, v16, rfl, G, f0, f1, f2, f3, f4, f5, f6, o4_3⟩ K hK
      have k0 := G.some d0
      have k1 := G.some d1
      have k2 := G.some d2
      have k3 := G.some d3
      have HK := Lib.hid hK
      clear hK
      go_simp
      exact HK.out _ _ ⟨_, _, _, _, _, _, rfl, G, fun _ => rfl, up (by decide) f1, up (by decide) f2, fun h => (f3 (down (by decide) h)).keep (Keep.refl _), fun h => (f4 (down (by decide) h)).step (Keep.refl _) (down (by decide)), fun h => Or.inr (f5 (down (by decide) h)), fun h => ⟨Or.inr (f6 (down (by decide) h)).1, (f6 (down (by decide) h)).2⟩, fun h h' => o4_3 (down (by decide) h) (down (by decide) h')⟩
    · -- 1: val
      rintro bb aa ww hn hd ⟨v5, v6, v13, v14, v15, v16, rfl, G, f0, f1, f2, f3, f4, f5, f6, o4_3⟩ K hK
      have b0 : bb 0 := hd ⟨0, .data⟩ (by simp) (by rfl)
      obtain rfl := f0 b0
      have HK := Lib.hid hK
      clear hK
      go_wp2_with (go_at_call 10; ((with_reducible refine (draftBucket_is _ B R gs ss _ (Lib.hid (HD.out.keep G)) X Y HX HY).mono ?_); rintro _ w1 ⟨rfl, hk⟩))
      exact HK.out _ _ ⟨_, _, _, _, _, _, rfl, (G.trans hk), fun _ => rfl, fun _ => rfl, up (by decide) f2, fun h => (f3 (down (by decide) h)).keep hk, fun h => (f4 (down (by decide) h)).step hk (down (by decide)), fun h => Or.inr (f5 (down (by decide) h)), fun h => ⟨Or.inr (f6 (down (by decide) h)).1, (f6 (down (by decide) h)).2⟩, fun h h' => o4_3 (down (by decide) h) (down (by decide) h')⟩
    · -- 2: val
      rintro bb aa ww hn hd ⟨v5, v6, v13, v14, v15, v16, rfl, G, f0, f1, f2, f3, f4, f5, f6, o4_3⟩ K hK
      have k0 := G.some d0
      have k1 := G.some d1
      have k2 := G.some d2
      have k3 := G.some d3
      have HK := Lib.hid hK
      clear hK
      go_simp
      exact HK.out _ _ ⟨_, _, _, _, _, _, rfl, G, up (by decide) f0, up (by decide) f1, fun _ => rfl, fun h => (f3 (down (by decide) h)).keep (Keep.refl _), fun h => (f4 (down (by decide) h)).step (Keep.refl _) (down (by decide)), fun h => Or.inr (f5 (down (by decide) h)), fun h => ⟨Or.inr (f6 (down (by decide) h)).1, (f6 (down (by decide) h)).2⟩, fun h h' => o4_3 (down (by decide) h) (down (by decide) h')⟩
    · -- 3: row
      rintro bb aa ww hn hd ⟨v5, v6, v13, v14, v15, v16, rfl, G, f0, f1, f2, f3, f4, f5, f6, o4_3⟩ K hK
      have b2 : bb 2 := hd ⟨2, .data⟩ (by simp) (by rfl)
      obtain rfl := f2 b2
      have HK := Lib.hid hK
      clear hK
      go_wp2_with (go_at_call 17; ((with_reducible refine (draftTrace_is _ B R gs ss _ (Lib.hid (HD.out.keep G)) l Hl).mono ?_); rintro _ w1 ⟨v1, rfl, hr, hk, hf⟩))
      exact HK.out _ _ ⟨_, _, _, _, _, _, rfl, (G.trans hk), up (by decide) f0, up (by decide) f1, fun _ => rfl, fun _ => hr, fun h => (f4 (down (by decide) h)).step hk (down (by decide)), fun h => Or.inr (f5 (down (by decide) h)), fun h => absurd (f6 (down (by decide) h)).1 hn, fun h _ => (f4 (down (by decide) h)).offFresh hf⟩
    · -- 4: alloc
      rintro bb aa ww hn hd ⟨v5, v6, v13, v14, v15, v16, rfl, G, f0, f1, f2, f3, f4, f5, f6, o4_3⟩ K hK
      have HK := Lib.hid hK
      clear hK
      go_simp
      exact HK.out _ _ ⟨_, _, _, _, _, _, rfl, (G.trans (Keep.alloc (Keep.refl _) _)), up (by decide) f0, up (by decide) f1, up (by decide) f2, fun h => (f3 (down (by decide) h)).keep (Keep.alloc (Keep.refl _) _), fun _ => VarAt.new G (fun h => hn (f5 (h.resolve_left (by decide)))), fun _ => Or.inl rfl, fun h => ⟨Or.inr (f6 (down (by decide) h)).1, (f6 (down (by decide) h)).2⟩, fun _ h => (f3 (down (by decide) h)).offNew⟩
    · -- 5: store
      rintro bb aa ww hn hd ⟨v5, v6, v13, v14, v15, v16, rfl, G, f0, f1, f2, f3, f4, f5, f6, o4_3⟩ K hK
      have b4 : bb 4 := hd ⟨4, .data⟩ (by simp) (by rfl)
      have b1 : bb 1 := hd ⟨1, .data⟩ (by simp) (by rfl)
      obtain rfl := f1 b1
      obtain ⟨X, c0, c1, rfl, hX, ⟨hc0, hc1⟩, ⟨hf0, hf1⟩, -⟩ := f4 b4
      have HK := Lib.hid hK
      clear hK
      go_simp
      exact HK.out _ _ ⟨_, _, _, _, _, _, rfl, ((G.setCell hX _).setCell hX _), up (by decide) f0, fun _ => rfl, up (by decide) f2, fun h => (f3 (down (by decide) h)).store (o4_3 b4 (down (by decide) h)), fun _ => VarAt.here hX hc0 hc1 hf0 hf1, fun _ => Or.inr b4, fun h => ⟨Or.inr (f6 (down (by decide) h)).1, (f6 (down (by decide) h)).2⟩, fun h h' => o4_3 (down (by decide) h) (down (by decide) h')⟩
    · -- 6: val
      rintro bb aa ww hn hd ⟨v5, v6, v13, v14, v15, v16, rfl, G, f0, f1, f2, f3, f4, f5, f6, o4_3⟩ K hK
      have b3 : bb 3 := hd ⟨3, .data⟩ (by simp) (by rfl)
      have HK := Lib.hid hK
      clear hK
      go_simp
      exact HK.out _ _ ⟨_, _, _, _, _, _, rfl, G, up (by decide) f0, up (by decide) f1, up (by decide) f2, fun h => (f3 (down (by decide) h)).keep (Keep.refl _), fun h => (f4 (down (by decide) h)).step (Keep.refl _) (down (by decide)), fun h => Or.inr (f5 (down (by decide) h)), fun _ => ⟨Or.inr b3, rfl⟩, fun h h' => o4_3 (down (by decide) h) (down (by decide) h')⟩

theorem lawLeast_any (D : Value) (B R : Int) (gs ss : List Int) (e : Int) (w : World) (h : DraftAt w D B R gs ss) (he : 0 ≤ e ∧ e ≤ 65535) :
    Calls Try.prog 7 #[D, .int .u16 e] w (Res (.bool true) w) := by
  have h' := h
  obtain ⟨⟨g, s, rfl, h1, h2⟩, h3, h4⟩ := h
  obtain ⟨ga, gl, gc, rfl, -⟩ := h1.form
  obtain ⟨sa, sl, sc, rfl, -⟩ := h2.form
  refine least_walk B R ga sa gl gc sl sc gs ss e (min (rOf R + e) 2097152) w (Lib.hid h') _ _ (Lib.hid rfl) (Lib.hid rfl) _ (Lib.hid rfl) (Lib.hid (okT_traceD h1.1 h2.1 (by omega))) (Lib.hid (okBk_of B R)) (by rw [traceD_len]; omega) he rfl

end Go.Proofs.Ytigogelabokpbaa
