/- BucketLevels' walk: the level, reckoned arrival by arrival, becomes negative exactly where First says so. Written by genlevels.py. -/
import Derived.Test.YtigogelabokpbaaWorks3
namespace Go.Proofs.Ytigogelabokpbaa
open Go Go.RowKit

theorem firstV_yes {B R : Int} {l : List (Int × Int)} {n : Int} (hb : okBk B R = true) (ht : okT l = true) (h : firstL B R l = n) : firstV B R l n = true := by
  unfold firstV firstR
  rw [if_pos hb, if_pos ht, h]
  simp
theorem fitsV_yes {B R : Int} {l : List (Int × Int)} (hb : okBk B R = true) (ht : okT l = true) : fitsV B R l = decide (firstL B R l < 0) := by
  unfold fitsV
  rw [hb, ht]
  unfold fitsL firstL
  rw [first_neg (atL_zero ht) (by have := okBk_iff.1 hb; omega)]
  rfl
theorem levNeg_iff {B R : Int} {a s : Nat → Int} {k : Nat} : levNeg B R a s k = true ↔ lev B R a s (k + 1) < 0 := by unfold levNeg; rw [decide_eq_true_eq]
/-- What the loop has found: nothing so far, or the first negative level behind it. -/
def Found (B R : Int) (a s : Nat → Int) (k : Nat) (L p bad : Int) : Prop :=
  (bad = -1 ∧ lev B R a s k = L ∧ prevAt a k = p ∧ ∀ j, j < k → levNeg B R a s j = false) ∨ (∃ i : Nat, bad = i ∧ i + 1 = k ∧ levNeg B R a s i = true ∧ ∀ j, j < i → levNeg B R a s j = false)

set_option maxRecDepth 100000 in
set_option maxHeartbeats 8000000 in
theorem levels_walk (B R : Int) (ga sa : Option Addr) (gl gc sl sc : Nat) (gs ss : List Int) (w : World) (hD : Hid (DraftAt w (.agg #[.int .u32 B, .int .u32 R, .slice ga gl gc, .slice sa sl sc]) B R gs ss)) (X Y : Int) (HX : Hid (bOf B = X)) (HY : Hid (rOf R = Y)) (l : List (Int × Int)) (Hl : Hid (traceD gs ss (min ss.length 30) = l)) (Hok : Hid (okT l = true)) (Hb : Hid (okBk X Y = true)) (_hlen30 : l.length ≤ 30) :
    Calls Try.prog 6 #[.agg #[.int .u32 B, .int .u32 R, .slice ga gl gc, .slice sa sl sc]] w (Res (.bool true) w) := by
  have d0 : (w.alloc (.cells #[.int .u32 B, .int .u32 R, .slice ga gl gc, .slice sa sl sc] 27)).cell? ⟨w.heap.size, 0, none⟩ = some (.int .u32 B) := by simp [go_sem]
  have d1 : (w.alloc (.cells #[.int .u32 B, .int .u32 R, .slice ga gl gc, .slice sa sl sc] 27)).cell? ⟨w.heap.size, 1, none⟩ = some (.int .u32 R) := by simp [go_sem]
  have d2 : (w.alloc (.cells #[.int .u32 B, .int .u32 R, .slice ga gl gc, .slice sa sl sc] 27)).cell? ⟨w.heap.size, 2, none⟩ = some (.slice ga gl gc) := by simp [go_sem]
  have d3 : (w.alloc (.cells #[.int .u32 B, .int .u32 R, .slice ga gl gc, .slice sa sl sc] 27)).cell? ⟨w.heap.size, 3, none⟩ = some (.slice sa sl sc) := by simp [go_sem]
  have KK := Lib.hid (Keep.alloc (Keep.refl w) (.cells #[.int .u32 B, .int .u32 R, .slice ga gl gc, .slice sa sl sc] 27))
  have HD := Lib.hid (hD.out.keep KK.out)
  clear hD
  go_enter Try.func6, Try.ntmps6
  go_upto_region 4 with (first | (go_at_call 21; ((with_reducible refine (works_yes _).mono ?_); rintro _ w1 ⟨rfl, hk⟩; have KK := Lib.hid (KK.out.trans hk); have d0 := hk.some d0; have d1 := hk.some d1; have d2 := hk.some d2; have d3 := hk.some d3; have HD := Lib.hid (HD.out.keep hk))) | (go_at_call 10; ((with_reducible refine (draftBucket_is _ B R gs ss _ HD X Y HX HY).mono ?_); rintro _ w1 ⟨rfl, hk⟩; have KK := Lib.hid (KK.out.trans hk); have d0 := hk.some d0; have d1 := hk.some d1; have d2 := hk.some d2; have d3 := hk.some d3; have HD := Lib.hid (HD.out.keep hk))))
  have x0 : ∀ w' : World, (w'.alloc (.cells #[.int .i64 X, .int .i64 Y] 23)).cell? ⟨w'.heap.size, 0, none⟩ = some (.int .i64 X) := fun w' => by simp [go_sem]
  have x1 : ∀ w' : World, (w'.alloc (.cells #[.int .i64 X, .int .i64 Y] 23)).cell? ⟨w'.heap.size, 1, none⟩ = some (.int .i64 Y) := fun w' => by simp [go_sem]
  have x0 := x0 w1
  have x1 := x1 w1
  have d0 := cell_alloc_old (.cells #[.int .i64 X, .int .i64 Y] 23) d0
  have d1 := cell_alloc_old (.cells #[.int .i64 X, .int .i64 Y] 23) d1
  have d2 := cell_alloc_old (.cells #[.int .i64 X, .int .i64 Y] 23) d2
  have d3 := cell_alloc_old (.cells #[.int .i64 X, .int .i64 Y] 23) d3
  have HD := Lib.hid (HD.out.keep (Keep.alloc (Keep.refl w1) (.cells #[.int .i64 X, .int .i64 Y] 23)))
  have KK := Lib.hid (KK.out.alloc (.cells #[.int .i64 X, .int .i64 Y] 23))
  obtain ⟨BX, hBX⟩ : ∃ BX, w1.heap.size = BX := ⟨_, rfl⟩
  obtain ⟨W0, hW0⟩ : ∃ W0, w1.alloc (.cells #[.int .i64 X, .int .i64 Y] 23) = W0 := ⟨_, rfl⟩
  rw [hBX] at x0 x1 ⊢
  rw [hW0] at x0 x1 d0 d1 d2 d3 HD KK ⊢
  clear hW0 hBX
  refine region_inv (J := fun bb aa ww => ∃ v14 v15 v16 v17 v18 v19 : Value, aa = ⟨#[Value.agg #[Value.int IntKind.u32 B, Value.int IntKind.u32 R, Value.slice ga gl gc, Value.slice sa sl sc], Value.pointer (some { block := w.heap.size, off := 0 }), Value.bool false, Value.pointer (some { block := BX, off := 0 }), undef, undef, undef, undef, undef, undef, Value.bool true, Value.bool false, Value.agg #[Value.int IntKind.u32 B, Value.int IntKind.u32 R, Value.slice ga gl gc, Value.slice sa sl sc], Value.agg #[Value.int IntKind.i64 X, Value.int IntKind.i64 Y], v14, v15, v16, v17, v18, v19, undef, undef, undef, undef, undef, undef, undef, undef, undef, undef, undef, undef, undef, undef, undef, undef, undef, undef, undef, undef, undef, undef, undef, undef, undef, undef, undef, undef, undef, undef, undef, undef, undef, undef, undef, undef, undef, undef, undef, undef, undef, undef, undef, undef, undef, undef, undef, undef, undef, undef, undef, undef, undef, undef, undef, undef, undef, undef, undef, undef], []⟩ ∧ Keep W0 ww ∧ (bb 0 → v14 = .agg #[.int .u32 B, .int .u32 R, .slice ga gl gc, .slice sa sl sc]) ∧ (bb 1 → RowAt ww v15 (l)) ∧ (bb 2 → v16 = .agg #[.int .u32 B, .int .u32 R, .slice ga gl gc, .slice sa sl sc]) ∧ (bb 3 → RowAt ww v17 (confL X Y l)) ∧ (bb 4 → bb 1 ∧ bb 3 ∧ v18 = .agg #[v15, v17]) ∧ (bb 5 → v19 = .int .i64 0)) (by kernel_rfl) (by kernel_rfl) ?donew ?startw ?stepsw
  case donew =>
    rintro bb aa ww hb ⟨v14, v15, v16, v17, v18, v19, rfl, G, f0, f1, f2, f3, f4, f5⟩
    have g0 := f0 (hb 0 (by decide))
    have g1 := f1 (hb 1 (by decide))
    have g2 := f2 (hb 2 (by decide))
    have g3 := f3 (hb 3 (by decide))
    have g4 := f4 (hb 4 (by decide))
    have g5 := f5 (hb 5 (by decide))
    obtain rfl := g0
    obtain rfl := g2
    obtain ⟨-, -, rfl⟩ := g4
    obtain rfl := g5
    clear f0 f1 f2 f3 f4 f5
    have KK := Lib.hid (KK.out.trans G)
    have x0 := G.some x0
    have x1 := G.some x1
    obtain ⟨a1, c1, rfl, h1⟩ := g1.form
    obtain ⟨a2, c2, rfl, h2⟩ := g3.form
    have okc : okT (confL X Y l) = true := by have := confL_sub X Y l l.length (Nat.le_refl _); rw [List.take_length] at this; exact okT_sub Hok.out this
    have hidx : ∀ k : Nat, k < 2 → ∃ a0 m c, (∀ w', (Instr.index 57 (.agg #[.slice a1 l.length c1, .slice a2 (confL X Y l).length c2]) (.int .i64 (k : Int))).run Try.prog w' = .ok (.slice a0 m.length c) w') ∧ RowAt ww (.slice a0 m.length c) m ∧ okT m = true := fun k hk => by
      obtain rfl | rfl : k = 0 ∨ k = 1 := by omega
      · exact ⟨a1, l, c1, fun w' => by kernel_rfl, g1, Hok.out⟩
      · exact ⟨a2, confL X Y l, c2, fun w' => by kernel_rfl, g3, okc⟩
    have HI := Lib.hid hidx
    clear hb hidx g1 g3 h1 h2 okc HD d0 d1 d2 d3
    go_wp2
    go_loopw [19] (fun s19 wr => ∃ k : Nat, k ≤ 2 ∧ s19 = .int .i64 (k : Int) ∧ Hid (Keep ww wr)) (fun i _ => 2 - (intOf i).toNat)
    case atStart => exact ⟨0, by omega, rfl, Lib.hid (Keep.refl _)⟩
    case round =>
      obtain ⟨k, hk, rfl, HR⟩ := hrel
      by_cases hlt : k < 2
      · obtain ⟨a0, m, c, hix, hrow, hokm⟩ := HI.out k hlt
        have hlt' : (k : Int) < 2 := by omega
        have HROW0 := Lib.hid hrow
        have y0 := HR.out.some x0
        have y1 := HR.out.some x1
        have hm200 := (okT_iff.1 hokm).1
        have HOK := Lib.hid (okT_iff.1 hokm).2
        have HOT := Lib.hid hokm
        obtain ⟨a0', c', e1, hel⟩ := hrow.form
        cases e1
        have HEL := Lib.hid hel
        have bk := okBk_iff.1 Hb.out
        obtain ⟨FL, hFL⟩ : ∃ FL, X * 1048576 = FL := ⟨_, rfl⟩
        have hF1 : 1048576 ≤ FL ∧ FL ≤ 1099511627776 := by omega
        obtain ⟨n, hn⟩ : ∃ n, m.length = n := ⟨_, rfl⟩
        rw [hn] at hm200 HOK HEL HROW0 hix
        have HNL := Lib.hid hn
        clear hrow hokm hel hn
        go_wp2
        go_loopw [6, 7, 8, 9] (fun s6 s7 s8 s9 wq => ∃ (i : Nat) (L p bad : Int), i ≤ n ∧ s9 = .int .i64 (i : Int) ∧ s6 = .int .i64 L ∧ s7 = .int .i64 p ∧ s8 = .int .i64 bad ∧ Hid (Found X Y (atL m) (szL m) i L p bad) ∧ Hid (Keep ww wq)) (fun _ _ _ i _ => n - (intOf i).toNat)
        case atStart => exact ⟨0, FL, 0, -1, Nat.zero_le _, rfl, rfl, rfl, rfl, Lib.hid (Or.inl ⟨rfl, hFL, rfl, fun j hj => absurd hj (Nat.not_lt_zero _)⟩), HR⟩
        case round =>
          obtain ⟨i, L, p, bad, hin, rfl, rfl, rfl, rfl, HF, HQ⟩ := hrel
          by_cases hil : i < n
          · have hil' : (i : Int) < (n : Int) := by omega
            by_cases hbad : bad < 0
            · have HF1 : Hid (lev X Y (atL m) (szL m) i = L ∧ prevAt (atL m) i = p ∧ ∀ j, j < i → levNeg X Y (atL m) (szL m) j = false) := Lib.hid (by
                rcases HF.out with h | ⟨q, h, -⟩
                · exact h.2
                · omega)
              have hb1 : bad = -1 := by
                rcases HF.out with h | ⟨q, h, -⟩
                · exact h.1
                · omega
              subst hb1
              clear HF
              obtain ⟨b, off, rfl, e0, e1⟩ := HEL.out i hil
              have e0 := HQ.out.some e0
              have e1 := HQ.out.some e1
              have z0 := HQ.out.some x0
              have z1 := HQ.out.some x1
              have bd := okSteps_bd HOK.out i hil
              have bl := lev_bd Hb.out HOK.out i hin
              have eL : lev X Y (atL m) (szL m) (i + 1) = min (X * 1048576) (lev X Y (atL m) (szL m) i + Y * (atL m i - prevAt (atL m) i)) - szL m i * 1048576 := rfl
              obtain ⟨x, hx⟩ : ∃ x, atL m i = x := ⟨_, rfl⟩
              obtain ⟨y, hy⟩ : ∃ y, szL m i = y := ⟨_, rfl⟩
              rw [HF1.out.1, HF1.out.2.1, hx, hy, hFL] at eL
              rw [HF1.out.2.1, hx, hy] at bd
              rw [HF1.out.1, hFL] at bl
              rw [hx] at e0
              rw [hy] at e1
              have HX2 := Lib.hid hx
              clear hx hy
              obtain ⟨D, hD⟩ : ∃ D, x - p = D := ⟨_, rfl⟩
              rw [hD] at eL
              have gd := gain_bd (d := D) bk.2.2 (by omega)
              obtain ⟨G2, hG⟩ : ∃ G2, Y * D = G2 := ⟨_, rfl⟩
              rw [hG] at eL gd
              obtain ⟨T, hT⟩ : ∃ T, L + G2 = T := ⟨_, rfl⟩
              rw [hT] at eL
              obtain ⟨Z, hZ⟩ : ∃ Z, y * 1048576 = Z := ⟨_, rfl⟩
              rw [hZ] at eL
              obtain ⟨M, hM⟩ : ∃ M, min FL T = M := ⟨_, rfl⟩
              rw [hM] at eL
              have b1 : -1099511627776 * 200 ≤ L ∧ L ≤ 1099511627776 := by omega
              have b3 : -1099511627776 * 200 ≤ T ∧ T ≤ 3000000000000000000 := by omega
              have b4 : -1099511627776 * 200 ≤ M ∧ M ≤ 1099511627776 := by omega
              have b5 : 0 ≤ Z ∧ Z ≤ 1099511627776 := by omega
              obtain ⟨L2, hL2⟩ : ∃ L2, M - Z = L2 := ⟨_, rfl⟩
              rw [hL2] at eL
              have b6 : -1099511627776 * 201 ≤ L2 ∧ L2 ≤ 1099511627776 := by omega
              have w1 : IntKind.i64.wrap (X * 1048576) = FL := by rw [hFL]; exact IntWalk.i64_in _ (by omega)
              have w2 : IntKind.i64.wrap (x - p) = D := by rw [hD]; exact IntWalk.i64_in _ (by omega)
              have w3 : IntKind.i64.wrap (Y * D) = G2 := by rw [hG]; exact IntWalk.i64_in _ (by omega)
              have w4 : IntKind.i64.wrap (L + G2) = T := by rw [hT]; exact IntWalk.i64_in _ (by omega)
              have w5 : IntKind.i64.wrap (y * 1048576) = Z := by rw [hZ]; exact IntWalk.i64_in _ (by omega)
              have w6 : IntKind.i64.wrap (M - Z) = L2 := by rw [hL2]; exact IntWalk.i64_in _ (by omega)
              have HL := Lib.hid eL
              clear eL bl gd bd hD hG hT hZ hL2 hFL
              go_wp2
              go_region
              cases hneg : decide (L2 < 0) with
              | true =>
                have hn2 : L2 < 0 := by simpa using hneg
                clear hneg
                all_goals go_wp2
                all_goals go_roundw
                case rel => exact ⟨i + 1, L2, x, (i : Int), by omega, rfl, rfl, rfl, rfl, Lib.hid (Or.inr ⟨i, rfl, rfl, levNeg_iff.2 (by rw [HL.out]; exact hn2), HF1.out.2.2⟩), Lib.hid HQ.out.drew⟩
                case measure => simp [intOf]; omega
              | false =>
                have hn2 : 0 ≤ L2 := by simpa using hneg
                clear hneg
                all_goals go_wp2
                all_goals go_roundw
                case rel => exact ⟨i + 1, L2, x, -1, by omega, rfl, rfl, rfl, rfl, Lib.hid (Or.inl ⟨rfl, HL.out, HX2.out, fun j hj => by
                  rcases Nat.lt_or_ge j i with h | h
                  · exact HF1.out.2.2 j h
                  · obtain rfl : j = i := by omega
                    unfold levNeg; rw [decide_eq_false_iff_not, HL.out]; omega⟩), Lib.hid HQ.out.drew⟩
                case measure => simp [intOf]; omega
            · have hbad' : 0 ≤ bad := by omega
              have HB : Hid (firstL X Y m = bad) := Lib.hid (by
                rcases HF.out with h | ⟨q, h1, h2, h3, h4⟩
                · omega
                · rw [h1]; unfold firstL; rw [HNL.out]; exact firstIdx_some (by omega) h3 h4)
              have F1 : Hid (firstV X Y m bad = true) := Lib.hid (firstV_yes Hb.out HOT.out HB.out)
              have F2 : Hid (fitsV X Y m = decide (bad < 0)) := Lib.hid (by rw [fitsV_yes Hb.out HOT.out, HB.out])
              have z0 := HQ.out.some x0
              have z1 := HQ.out.some x1
              have HRW := Lib.hid (HROW0.out.keep HQ.out)
              clear HF HB
              cases hneg : decide (bad < 0) with
              | true =>
                have hn2 : bad < 0 := by simpa using hneg
                rw [hneg] at F2
                clear hneg
                go_wp2_with (first | (go_at_call 29; ((with_reducible refine (lawFirst_any X Y _ m bad _ HRW true F1).mono ?_); rintro _ w1 ⟨rfl, k1⟩; have z0 := k1.some z0; have z1 := k1.some z1)) | (go_at_call 30; ((with_reducible refine (lawFits_any X Y _ m _ (Lib.hid (HRW.out.keep k1)) _ F2).mono ?_); rintro _ w2 ⟨rfl, k2⟩)))
                go_roundw
                case rel => exact ⟨k + 1, by omega, rfl, Lib.hid ((HQ.out.trans k1).trans k2)⟩
                case measure => simp [intOf]; omega
              | false =>
                have hn2 : ¬ bad < 0 := by simpa using hneg
                rw [hneg] at F2
                clear hneg
                go_wp2_with (first | (go_at_call 29; ((with_reducible refine (lawFirst_any X Y _ m bad _ HRW true F1).mono ?_); rintro _ w1 ⟨rfl, k1⟩; have z0 := k1.some z0; have z1 := k1.some z1)) | (go_at_call 30; ((with_reducible refine (lawFits_any X Y _ m _ (Lib.hid (HRW.out.keep k1)) _ F2).mono ?_); rintro _ w2 ⟨rfl, k2⟩)))
                go_roundw
                case rel => exact ⟨k + 1, by omega, rfl, Lib.hid ((HQ.out.trans k1).trans k2)⟩
                case measure => simp [intOf]; omega
          · obtain rfl : i = n := by omega
            have HB : Hid (firstL X Y m = bad) := Lib.hid (by
              rcases HF.out with h | ⟨q, h1, h2, h3, h4⟩
              · rw [h.1]; unfold firstL; rw [HNL.out]; exact firstIdx_none h.2.2.2
              · rw [h1]; unfold firstL; rw [HNL.out]; exact firstIdx_some (by omega) h3 h4)
            have F1 : Hid (firstV X Y m bad = true) := Lib.hid (firstV_yes Hb.out HOT.out HB.out)
            have F2 : Hid (fitsV X Y m = decide (bad < 0)) := Lib.hid (by rw [fitsV_yes Hb.out HOT.out, HB.out])
            have z0 := HQ.out.some x0
            have z1 := HQ.out.some x1
            have HRW := Lib.hid (HROW0.out.keep HQ.out)
            clear HF HB
            cases hneg : decide (bad < 0) with
            | true =>
              have hn2 : bad < 0 := by simpa using hneg
              rw [hneg] at F2
              clear hneg
              go_wp2_with (first | (go_at_call 29; ((with_reducible refine (lawFirst_any X Y _ m bad _ HRW true F1).mono ?_); rintro _ w1 ⟨rfl, k1⟩; have z0 := k1.some z0; have z1 := k1.some z1)) | (go_at_call 30; ((with_reducible refine (lawFits_any X Y _ m _ (Lib.hid (HRW.out.keep k1)) _ F2).mono ?_); rintro _ w2 ⟨rfl, k2⟩)))
              go_roundw
              case rel => exact ⟨k + 1, by omega, rfl, Lib.hid ((HQ.out.trans k1).trans k2)⟩
              case measure => simp [intOf]; omega
            | false =>
              have hn2 : ¬ bad < 0 := by simpa using hneg
              rw [hneg] at F2
              clear hneg
              go_wp2_with (first | (go_at_call 29; ((with_reducible refine (lawFirst_any X Y _ m bad _ HRW true F1).mono ?_); rintro _ w1 ⟨rfl, k1⟩; have z0 := k1.some z0; have z1 := k1.some z1)) | (go_at_call 30; ((with_reducible refine (lawFits_any X Y _ m _ (Lib.hid (HRW.out.keep k1)) _ F2).mono ?_); rintro _ w2 ⟨rfl, k2⟩)))
              go_roundw
              case rel => exact ⟨k + 1, by omega, rfl, Lib.hid ((HQ.out.trans k1).trans k2)⟩
              case measure => simp [intOf]; omega
      · obtain rfl : k = 2 := by omega
        go_wp2
        go_ret
        exact ⟨rfl, KK.out.trans HR.out⟩
  case startw => exact ⟨_, _, _, _, _, _, rfl, Keep.drew (Keep.refl _), fun h => h.elim, fun h => h.elim, fun h => h.elim, fun h => h.elim, fun h => h.elim, fun h => h.elim⟩
  case stepsw =>
    refine StepsFrom.cons (k := 0) ?_ (StepsFrom.cons (k := 1) ?_ (StepsFrom.cons (k := 2) ?_ (StepsFrom.cons (k := 3) ?_ (StepsFrom.cons (k := 4) ?_ (StepsFrom.cons (k := 5) ?_ (StepsFrom.nil))))))
    · -- 0: val
      rintro bb aa ww hn hd ⟨v14, v15, v16, v17, v18, v19, rfl, G, f0, f1, f2, f3, f4, f5⟩ K hK
      have k0 := G.some d0
      have k1 := G.some d1
      have k2 := G.some d2
      have k3 := G.some d3
      have HK := Lib.hid hK
      clear hK
      go_simp
      exact HK.out _ _ ⟨_, _, _, _, _, _, rfl, G, fun _ => rfl, fun h => (f1 (down (by decide) h)).keep (Keep.refl _), up (by decide) f2, fun h => (f3 (down (by decide) h)).keep (Keep.refl _), fun h => ⟨Or.inr (f4 (down (by decide) h)).1, Or.inr (f4 (down (by decide) h)).2.1, (f4 (down (by decide) h)).2.2⟩, up (by decide) f5⟩
    · -- 1: row
      rintro bb aa ww hn hd ⟨v14, v15, v16, v17, v18, v19, rfl, G, f0, f1, f2, f3, f4, f5⟩ K hK
      have b0 : bb 0 := hd ⟨0, .data⟩ (by simp) (by rfl)
      obtain rfl := f0 b0
      have HK := Lib.hid hK
      clear hK
      go_wp2_with (go_at_call 17; ((with_reducible refine (draftTrace_is _ B R gs ss _ (Lib.hid (HD.out.keep G)) l Hl).mono ?_); rintro _ w1 ⟨v1, rfl, hr, hk, hf⟩))
      exact HK.out _ _ ⟨_, _, _, _, _, _, rfl, (G.trans hk), fun _ => rfl, fun _ => hr, up (by decide) f2, fun h => (f3 (down (by decide) h)).keep hk, fun h => absurd (f4 (down (by decide) h)).1 hn, up (by decide) f5⟩
    · -- 2: val
      rintro bb aa ww hn hd ⟨v14, v15, v16, v17, v18, v19, rfl, G, f0, f1, f2, f3, f4, f5⟩ K hK
      have k0 := G.some d0
      have k1 := G.some d1
      have k2 := G.some d2
      have k3 := G.some d3
      have HK := Lib.hid hK
      clear hK
      go_simp
      exact HK.out _ _ ⟨_, _, _, _, _, _, rfl, G, up (by decide) f0, fun h => (f1 (down (by decide) h)).keep (Keep.refl _), fun _ => rfl, fun h => (f3 (down (by decide) h)).keep (Keep.refl _), fun h => ⟨Or.inr (f4 (down (by decide) h)).1, Or.inr (f4 (down (by decide) h)).2.1, (f4 (down (by decide) h)).2.2⟩, up (by decide) f5⟩
    · -- 3: row
      rintro bb aa ww hn hd ⟨v14, v15, v16, v17, v18, v19, rfl, G, f0, f1, f2, f3, f4, f5⟩ K hK
      have b2 : bb 2 := hd ⟨2, .data⟩ (by simp) (by rfl)
      obtain rfl := f2 b2
      have HK := Lib.hid hK
      clear hK
      go_wp2_with (go_at_call 22; ((with_reducible refine (conf_is _ B R gs ss _ (Lib.hid (HD.out.keep G)) X Y HX HY l Hl).mono ?_); rintro _ w1 ⟨v1, rfl, hr, hk, hf⟩))
      exact HK.out _ _ ⟨_, _, _, _, _, _, rfl, (G.trans hk), up (by decide) f0, fun h => (f1 (down (by decide) h)).keep hk, fun _ => rfl, fun _ => hr, fun h => absurd (f4 (down (by decide) h)).2.1 hn, up (by decide) f5⟩
    · -- 4: val
      rintro bb aa ww hn hd ⟨v14, v15, v16, v17, v18, v19, rfl, G, f0, f1, f2, f3, f4, f5⟩ K hK
      have b1 : bb 1 := hd ⟨1, .data⟩ (by simp) (by rfl)
      obtain ⟨a1, n1, c1, e1⟩ := (f1 b1).slice
      have R1 := Lib.hid (f1 b1)
      rw [e1] at R1
      subst e1
      have b3 : bb 3 := hd ⟨3, .data⟩ (by simp) (by rfl)
      obtain ⟨a3, n3, c3, e3⟩ := (f3 b3).slice
      have R3 := Lib.hid (f3 b3)
      rw [e3] at R3
      subst e3
      have HK := Lib.hid hK
      clear hK
      go_simp
      exact HK.out _ _ ⟨_, _, _, _, _, _, rfl, G, up (by decide) f0, fun _ => R1.out.keep (Keep.refl _), up (by decide) f2, fun _ => R3.out.keep (Keep.refl _), fun _ => ⟨Or.inr b1, Or.inr b3, rfl⟩, up (by decide) f5⟩
    · -- 5: val
      rintro bb aa ww hn hd ⟨v14, v15, v16, v17, v18, v19, rfl, G, f0, f1, f2, f3, f4, f5⟩ K hK
      have HK := Lib.hid hK
      clear hK
      go_simp
      exact HK.out _ _ ⟨_, _, _, _, _, _, rfl, G, up (by decide) f0, fun h => (f1 (down (by decide) h)).keep (Keep.refl _), up (by decide) f2, fun h => (f3 (down (by decide) h)).keep (Keep.refl _), fun h => ⟨Or.inr (f4 (down (by decide) h)).1, Or.inr (f4 (down (by decide) h)).2.1, (f4 (down (by decide) h)).2.2⟩, fun _ => rfl⟩

theorem levels_any (D : Value) (B R : Int) (gs ss : List Int) (w : World) (h : DraftAt w D B R gs ss) :
    Calls Try.prog 6 #[D] w (Res (.bool true) w) := by
  have h' := h
  obtain ⟨⟨g, s, rfl, h1, h2⟩, h3, h4⟩ := h
  obtain ⟨ga, gl, gc, rfl, -⟩ := h1.form
  obtain ⟨sa, sl, sc, rfl, -⟩ := h2.form
  refine levels_walk B R ga sa gl gc sl sc gs ss w (Lib.hid h') _ _ (Lib.hid rfl) (Lib.hid rfl) _ (Lib.hid rfl) (Lib.hid (okT_traceD h1.1 h2.1 (by omega))) (Lib.hid (okBk_of B R)) (by rw [traceD_len]; omega)

end Go.Proofs.Ytigogelabokpbaa
