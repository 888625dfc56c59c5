/- CurveBounds' walk: Backlog and Output of the program and of the reference return the same. -/
import Derived.Test.YtmamadgikjkjdaaRefDelay
import Derived.Test.YtmamadgikjkjdaaWorks4
import Derived.Test.YtmamadgikjkjdaaConf
namespace Go.Proofs.Ytmamadgikjkjdaa
open Go Go.RowKit

set_option maxRecDepth 100000 in
set_option maxHeartbeats 16000000 in
theorem bounds_walk (B R : Int) (ga sa : Option Addr) (gl gc sl sc : Nat) (gs ss : List Int) (b0 b1 s0 s1 n0 n1 : Int) (w : World) (hD : Hid (DraftAt w (.agg #[.int .u32 B, .int .u32 R, .slice ga gl gc, .slice sa sl sc]) B R gs ss)) (X Y : Int) (HX : Hid (bOf B = X)) (HY : Hid (rOf R = Y)) (Hb : Hid (okBk X Y = true)) (h0 : 0 ≤ n0 ∧ n0 ≤ 4294967295) (h1 : 0 ≤ n1 ∧ n1 ≤ 4294967295) :
    Calls Try.prog 7 #[.agg #[.int .i64 b0, .int .i64 b1], .agg #[.int .u32 B, .int .u32 R, .slice ga gl gc, .slice sa sl sc], .agg #[.int .i64 s0, .int .i64 s1], .agg #[.int .u32 n0, .int .u32 n1]] w (Res (.bool true) w) := by
  have bk := okBk_iff.1 Hb.out
  have KK := Lib.hid ((((Keep.alloc (Keep.refl w) (.cells #[.int .i64 b0, .int .i64 b1] 30)).alloc (.cells #[.int .u32 B, .int .u32 R, .slice ga gl gc, .slice sa sl sc] 25)).alloc (.cells #[.int .i64 s0, .int .i64 s1] 54)).alloc (.cells #[.int .u32 n0, .int .u32 n1] 64))
  have HD := Lib.hid (hD.out.keep KK.out)
  clear hD
  have a0 : ((((w.alloc (.cells #[.int .i64 b0, .int .i64 b1] 30)).alloc (.cells #[.int .u32 B, .int .u32 R, .slice ga gl gc, .slice sa sl sc] 25)).alloc (.cells #[.int .i64 s0, .int .i64 s1] 54)).alloc (.cells #[.int .u32 n0, .int .u32 n1] 64)).cell? ⟨w.heap.size, 0, none⟩ = some (.int .i64 b0) := by simp [go_sem]
  have a1 : ((((w.alloc (.cells #[.int .i64 b0, .int .i64 b1] 30)).alloc (.cells #[.int .u32 B, .int .u32 R, .slice ga gl gc, .slice sa sl sc] 25)).alloc (.cells #[.int .i64 s0, .int .i64 s1] 54)).alloc (.cells #[.int .u32 n0, .int .u32 n1] 64)).cell? ⟨w.heap.size, 1, none⟩ = some (.int .i64 b1) := by simp [go_sem]
  have d0 : ((((w.alloc (.cells #[.int .i64 b0, .int .i64 b1] 30)).alloc (.cells #[.int .u32 B, .int .u32 R, .slice ga gl gc, .slice sa sl sc] 25)).alloc (.cells #[.int .i64 s0, .int .i64 s1] 54)).alloc (.cells #[.int .u32 n0, .int .u32 n1] 64)).cell? ⟨w.heap.size + 1, 0, none⟩ = some (.int .u32 B) := by simp [go_sem]
  have d1 : ((((w.alloc (.cells #[.int .i64 b0, .int .i64 b1] 30)).alloc (.cells #[.int .u32 B, .int .u32 R, .slice ga gl gc, .slice sa sl sc] 25)).alloc (.cells #[.int .i64 s0, .int .i64 s1] 54)).alloc (.cells #[.int .u32 n0, .int .u32 n1] 64)).cell? ⟨w.heap.size + 1, 1, none⟩ = some (.int .u32 R) := by simp [go_sem]
  have d2 : ((((w.alloc (.cells #[.int .i64 b0, .int .i64 b1] 30)).alloc (.cells #[.int .u32 B, .int .u32 R, .slice ga gl gc, .slice sa sl sc] 25)).alloc (.cells #[.int .i64 s0, .int .i64 s1] 54)).alloc (.cells #[.int .u32 n0, .int .u32 n1] 64)).cell? ⟨w.heap.size + 1, 2, none⟩ = some (.slice ga gl gc) := by simp [go_sem]
  have d3 : ((((w.alloc (.cells #[.int .i64 b0, .int .i64 b1] 30)).alloc (.cells #[.int .u32 B, .int .u32 R, .slice ga gl gc, .slice sa sl sc] 25)).alloc (.cells #[.int .i64 s0, .int .i64 s1] 54)).alloc (.cells #[.int .u32 n0, .int .u32 n1] 64)).cell? ⟨w.heap.size + 1, 3, none⟩ = some (.slice sa sl sc) := by simp [go_sem]
  have c0 : ((((w.alloc (.cells #[.int .i64 b0, .int .i64 b1] 30)).alloc (.cells #[.int .u32 B, .int .u32 R, .slice ga gl gc, .slice sa sl sc] 25)).alloc (.cells #[.int .i64 s0, .int .i64 s1] 54)).alloc (.cells #[.int .u32 n0, .int .u32 n1] 64)).cell? ⟨w.heap.size + 1 + 1, 0, none⟩ = some (.int .i64 s0) := by simp [go_sem]
  have c1 : ((((w.alloc (.cells #[.int .i64 b0, .int .i64 b1] 30)).alloc (.cells #[.int .u32 B, .int .u32 R, .slice ga gl gc, .slice sa sl sc] 25)).alloc (.cells #[.int .i64 s0, .int .i64 s1] 54)).alloc (.cells #[.int .u32 n0, .int .u32 n1] 64)).cell? ⟨w.heap.size + 1 + 1, 1, none⟩ = some (.int .i64 s1) := by simp [go_sem]
  have e0 : ((((w.alloc (.cells #[.int .i64 b0, .int .i64 b1] 30)).alloc (.cells #[.int .u32 B, .int .u32 R, .slice ga gl gc, .slice sa sl sc] 25)).alloc (.cells #[.int .i64 s0, .int .i64 s1] 54)).alloc (.cells #[.int .u32 n0, .int .u32 n1] 64)).cell? ⟨w.heap.size + 1 + 1 + 1, 0, none⟩ = some (.int .u32 n0) := by simp [go_sem]
  have e1 : ((((w.alloc (.cells #[.int .i64 b0, .int .i64 b1] 30)).alloc (.cells #[.int .u32 B, .int .u32 R, .slice ga gl gc, .slice sa sl sc] 25)).alloc (.cells #[.int .i64 s0, .int .i64 s1] 54)).alloc (.cells #[.int .u32 n0, .int .u32 n1] 64)).cell? ⟨w.heap.size + 1 + 1 + 1, 1, none⟩ = some (.int .u32 n1) := by simp [go_sem]
  obtain ⟨P1, hP1⟩ : ∃ X, 1 + n0 % 2097152 = X := ⟨_, rfl⟩
  obtain ⟨Q1, hQ1⟩ : ∃ X, n1 % 268435457 = X := ⟨_, rfl⟩
  have HP1 := Lib.hid hP1
  have HQ1 := Lib.hid hQ1
  clear hP1 hQ1
  obtain ⟨BG, hBG⟩ : ∃ BG, w.heap.size = BG := ⟨_, rfl⟩
  obtain ⟨W0, hW0⟩ : ∃ W0, (((w.alloc (.cells #[.int .i64 b0, .int .i64 b1] 30)).alloc (.cells #[.int .u32 B, .int .u32 R, .slice ga gl gc, .slice sa sl sc] 25)).alloc (.cells #[.int .i64 s0, .int .i64 s1] 54)).alloc (.cells #[.int .u32 n0, .int .u32 n1] 64) = W0 := ⟨_, rfl⟩
  rw [hBG] at a0 a1 d0 d1 d2 d3 c0 c1 e0 e1
  rw [hW0] at a0 a1 d0 d1 d2 d3 c0 c1 e0 e1 KK HD
  go_enter Try.func7, Try.ntmps7
  go_wp2_with fail
  try rw [hBG]
  try rw [hW0]
  go_at_call 27
  refine (svOf_is n0 n1 _ h0 h1 P1 Q1 HP1 HQ1).mono ?_
  rintro _ w1 ⟨rfl, k1⟩
  have a0 := k1.some (by first | exact a0 | exact cell_alloc_old _ a0 | exact cell_alloc_old _ (cell_alloc_old _ a0) | exact cell_alloc_old _ (cell_alloc_old _ (cell_alloc_old _ a0)))
  have a1 := k1.some (by first | exact a1 | exact cell_alloc_old _ a1 | exact cell_alloc_old _ (cell_alloc_old _ a1) | exact cell_alloc_old _ (cell_alloc_old _ (cell_alloc_old _ a1)))
  have d0 := k1.some (by first | exact d0 | exact cell_alloc_old _ d0 | exact cell_alloc_old _ (cell_alloc_old _ d0) | exact cell_alloc_old _ (cell_alloc_old _ (cell_alloc_old _ d0)))
  have d1 := k1.some (by first | exact d1 | exact cell_alloc_old _ d1 | exact cell_alloc_old _ (cell_alloc_old _ d1) | exact cell_alloc_old _ (cell_alloc_old _ (cell_alloc_old _ d1)))
  have d2 := k1.some (by first | exact d2 | exact cell_alloc_old _ d2 | exact cell_alloc_old _ (cell_alloc_old _ d2) | exact cell_alloc_old _ (cell_alloc_old _ (cell_alloc_old _ d2)))
  have d3 := k1.some (by first | exact d3 | exact cell_alloc_old _ d3 | exact cell_alloc_old _ (cell_alloc_old _ d3) | exact cell_alloc_old _ (cell_alloc_old _ (cell_alloc_old _ d3)))
  have c0 := k1.some (by first | exact c0 | exact cell_alloc_old _ c0 | exact cell_alloc_old _ (cell_alloc_old _ c0) | exact cell_alloc_old _ (cell_alloc_old _ (cell_alloc_old _ c0)))
  have c1 := k1.some (by first | exact c1 | exact cell_alloc_old _ c1 | exact cell_alloc_old _ (cell_alloc_old _ c1) | exact cell_alloc_old _ (cell_alloc_old _ (cell_alloc_old _ c1)))
  have e0 := k1.some (by first | exact e0 | exact cell_alloc_old _ e0 | exact cell_alloc_old _ (cell_alloc_old _ e0) | exact cell_alloc_old _ (cell_alloc_old _ (cell_alloc_old _ e0)))
  have e1 := k1.some (by first | exact e1 | exact cell_alloc_old _ e1 | exact cell_alloc_old _ (cell_alloc_old _ e1) | exact cell_alloc_old _ (cell_alloc_old _ (cell_alloc_old _ e1)))
  have HD := Lib.hid (by first | exact HD.out.keep k1 | exact HD.out.keep ((Keep.alloc (Keep.refl _) _).trans k1) | exact HD.out.keep (((Keep.alloc (Keep.refl _) _).alloc _).trans k1) | exact HD.out.keep ((((Keep.alloc (Keep.refl _) _).alloc _).alloc _).trans k1))
  have KK := Lib.hid (by first | exact KK.out.trans k1 | exact (KK.out.alloc _).trans k1 | exact ((KK.out.alloc _).alloc _).trans k1 | exact (((KK.out.alloc _).alloc _).alloc _).trans k1)
  have ha0 := cellBlock a0
  have hd0 := cellBlock d0
  have hc0 := cellBlock c0
  have he0 := cellBlock e0
  clear hW0 hBG
  go_upto_region 2 with fail
  obtain ⟨B9, hB9⟩ : ∃ B9, w1.heap.size = B9 := ⟨_, rfl⟩
  have f0 : (w1.alloc (.cells #[.int .i64 P1, .int .i64 Q1] 54)).cell? ⟨w1.heap.size, 0, none⟩ = some (.int .i64 P1) := by simp [go_sem]
  have f1 : (w1.alloc (.cells #[.int .i64 P1, .int .i64 Q1] 54)).cell? ⟨w1.heap.size, 1, none⟩ = some (.int .i64 Q1) := by simp [go_sem]
  have a0 := cell_alloc_old (.cells #[.int .i64 P1, .int .i64 Q1] 54) a0
  have a1 := cell_alloc_old (.cells #[.int .i64 P1, .int .i64 Q1] 54) a1
  have d0 := cell_alloc_old (.cells #[.int .i64 P1, .int .i64 Q1] 54) d0
  have d1 := cell_alloc_old (.cells #[.int .i64 P1, .int .i64 Q1] 54) d1
  have d2 := cell_alloc_old (.cells #[.int .i64 P1, .int .i64 Q1] 54) d2
  have d3 := cell_alloc_old (.cells #[.int .i64 P1, .int .i64 Q1] 54) d3
  have c0 := cell_alloc_old (.cells #[.int .i64 P1, .int .i64 Q1] 54) c0
  have c1 := cell_alloc_old (.cells #[.int .i64 P1, .int .i64 Q1] 54) c1
  have e0 := cell_alloc_old (.cells #[.int .i64 P1, .int .i64 Q1] 54) e0
  have e1 := cell_alloc_old (.cells #[.int .i64 P1, .int .i64 Q1] 54) e1
  have HD := Lib.hid (HD.out.keep (Keep.alloc (Keep.refl _) (.cells #[.int .i64 P1, .int .i64 Q1] 54)))
  have KK := Lib.hid (KK.out.alloc (.cells #[.int .i64 P1, .int .i64 Q1] 54))
  obtain ⟨W2, hW2⟩ : ∃ W2, w1.alloc (.cells #[.int .i64 P1, .int .i64 Q1] 54) = W2 := ⟨_, rfl⟩
  rw [hB9] at f0 f1
  try rw [hB9]
  rw [hW2] at a0 a1 d0 d1 d2 d3 c0 c1 e0 e1 f0 f1 HD KK
  try rw [hW2]
  clear hW2 hB9
  refine region_tail (h := 15) (W0 := W2) (listF [fun v ww => v = .agg #[.int .u32 B, .int .u32 R, .slice ga gl gc, .slice sa sl sc], fun v ww => v = .agg #[.int .i64 X, .int .i64 Y], fun v ww => v = .int .i64 Y, fun v ww => v = .pointer (some ⟨BG + 1 + 1 + 1, 1, none⟩), fun v ww => v = .int .u32 n1, fun v ww => v = .int .u32 (n1 % 999), fun v ww => v = .int .i64 (n1 % 999), fun v ww => v = .int .i64 (Y + n1 % 999), fun v ww => v = .int .i64 (min 2097152 (Y + n1 % 999)), fun v ww => v = .pointer (some ⟨BG + 1 + 1 + 1, 1, none⟩), fun v ww => v = .int .u32 n1, fun v ww => v = .int .u32 (n1 % 5000), fun v ww => v = .int .i64 (n1 % 5000), fun v ww => v = .agg #[.int .i64 (min 2097152 (Y + n1 % 999)), .int .i64 (n1 % 5000)], fun v ww => ∃ X, v = .pointer (some ⟨X, 0, none⟩) ∧ W2.heap.size ≤ X ∧ ww.cell? ⟨X, 0, none⟩ = some (.int .i64 0) ∧ ww.cell? ⟨X, 1, none⟩ = some (.int .i64 0) ∧ ww.frozen? ⟨X, 0, none⟩ = false ∧ ww.frozen? ⟨X, 1, none⟩ = false]) (listF_stable _ ⟨fun _ _ _ _ h => h, fun _ _ _ _ h => h, fun _ _ _ _ h => h, fun _ _ _ _ h => h, fun _ _ _ _ h => h, fun _ _ _ _ h => h, fun _ _ _ _ h => h, fun _ _ _ _ h => h, fun _ _ _ _ h => h, fun _ _ _ _ h => h, fun _ _ _ _ h => h, fun _ _ _ _ h => h, fun _ _ _ _ h => h, fun _ _ _ _ h => h, fun _ _ _ hk ⟨X, h1, h2, h3, h4, h5, h6⟩ => ⟨X, h1, h2, hk.some h3, hk.some h4, keepThaw hk h3 h5, keepThaw hk h4 h6⟩, trivial⟩) (by kernel_rfl) (by kernel_rfl) (by kernel_rfl) (by kernel_rfl) (by kernel_rfl) (by kernel_rfl) (Keep.refl _) ?done2 ?steps2
  case done2 =>
    intro T2 wz2 hJ
    obtain ⟨x0, t0, f0⟩ := hJ.fact 0 28 (by decide) (by kernel_rfl)
    obtain rfl : x0 = .agg #[.int .u32 B, .int .u32 R, .slice ga gl gc, .slice sa sl sc] := f0
    obtain ⟨x1, t1, f1⟩ := hJ.fact 1 29 (by decide) (by kernel_rfl)
    obtain rfl : x1 = .agg #[.int .i64 X, .int .i64 Y] := f1
    obtain ⟨x2, t2, f2⟩ := hJ.fact 2 30 (by decide) (by kernel_rfl)
    obtain rfl : x2 = .int .i64 Y := f2
    obtain ⟨x3, t3, f3⟩ := hJ.fact 3 31 (by decide) (by kernel_rfl)
    obtain rfl : x3 = .pointer (some ⟨BG + 1 + 1 + 1, 1, none⟩) := f3
    obtain ⟨x4, t4, f4⟩ := hJ.fact 4 32 (by decide) (by kernel_rfl)
    obtain rfl : x4 = .int .u32 n1 := f4
    obtain ⟨x5, t5, f5⟩ := hJ.fact 5 33 (by decide) (by kernel_rfl)
    obtain rfl : x5 = .int .u32 (n1 % 999) := f5
    obtain ⟨x6, t6, f6⟩ := hJ.fact 6 34 (by decide) (by kernel_rfl)
    obtain rfl : x6 = .int .i64 (n1 % 999) := f6
    obtain ⟨x7, t7, f7⟩ := hJ.fact 7 35 (by decide) (by kernel_rfl)
    obtain rfl : x7 = .int .i64 (Y + n1 % 999) := f7
    obtain ⟨x8, t8, f8⟩ := hJ.fact 8 36 (by decide) (by kernel_rfl)
    obtain rfl : x8 = .int .i64 (min 2097152 (Y + n1 % 999)) := f8
    obtain ⟨x9, t9, f9⟩ := hJ.fact 9 37 (by decide) (by kernel_rfl)
    obtain rfl : x9 = .pointer (some ⟨BG + 1 + 1 + 1, 1, none⟩) := f9
    obtain ⟨x10, t10, f10⟩ := hJ.fact 10 38 (by decide) (by kernel_rfl)
    obtain rfl : x10 = .int .u32 n1 := f10
    obtain ⟨x11, t11, f11⟩ := hJ.fact 11 39 (by decide) (by kernel_rfl)
    obtain rfl : x11 = .int .u32 (n1 % 5000) := f11
    obtain ⟨x12, t12, f12⟩ := hJ.fact 12 40 (by decide) (by kernel_rfl)
    obtain rfl : x12 = .int .i64 (n1 % 5000) := f12
    obtain ⟨x13, t13, f13⟩ := hJ.fact 13 41 (by decide) (by kernel_rfl)
    obtain rfl : x13 = .agg #[.int .i64 (min 2097152 (Y + n1 % 999)), .int .i64 (n1 % 5000)] := f13
    obtain ⟨x14, t14, f14⟩ := hJ.fact 14 10 (by decide) (by kernel_rfl)
    replace f14 : ∃ X, x14 = .pointer (some ⟨X, 0, none⟩) ∧ W2.heap.size ≤ X ∧ wz2.cell? ⟨X, 0, none⟩ = some (.int .i64 0) ∧ wz2.cell? ⟨X, 1, none⟩ = some (.int .i64 0) ∧ wz2.frozen? ⟨X, 0, none⟩ = false ∧ wz2.frozen? ⟨X, 1, none⟩ = false := f14
    have hfr := hJ.frameTo [(28, .agg #[.int .u32 B, .int .u32 R, .slice ga gl gc, .slice sa sl sc]), (29, .agg #[.int .i64 X, .int .i64 Y]), (30, .int .i64 Y), (31, .pointer (some ⟨BG + 1 + 1 + 1, 1, none⟩)), (32, .int .u32 n1), (33, .int .u32 (n1 % 999)), (34, .int .i64 (n1 % 999)), (35, .int .i64 (Y + n1 % 999)), (36, .int .i64 (min 2097152 (Y + n1 % 999))), (37, .pointer (some ⟨BG + 1 + 1 + 1, 1, none⟩)), (38, .int .u32 n1), (39, .int .u32 (n1 % 5000)), (40, .int .i64 (n1 % 5000)), (41, .agg #[.int .i64 (min 2097152 (Y + n1 % 999)), .int .i64 (n1 % 5000)]), (10, x14)] (by simp [t0, t1, t2, t3, t4, t5, t6, t7, t8, t9, t10, t11, t12, t13, t14]) (by kernel_rfl)
    have G := hJ.keep
    clear hJ t0 t1 t2 t3 t4 t5 t6 t7 t8 t9 t10 t11 t12 t13 t14
    rw [hfr]
    clear hfr T2
    simp only [List.foldl_cons, List.foldl_nil, List.setIfInBounds_toArray, List.set_cons_zero, List.set_cons_succ, List.drop_succ_cons, List.drop_zero]
    obtain ⟨S2, hS2⟩ : ∃ S, min 2097152 (Y + n1 % 999) = S := ⟨_, rfl⟩
    obtain ⟨V2, hV2⟩ : ∃ S, n1 % 5000 = S := ⟨_, rfl⟩
    rw [hS2, hV2]
    obtain ⟨B10, rfl, hX8, x0, x1, y0, y1⟩ := f14
    clear hS2 hV2
    have G2 : Keep W2 ((wz2.setCell ⟨B10, 0, none⟩ (.int .i64 S2)).setCell ⟨B10, 1, none⟩ (.int .i64 V2)) := (G.setCell hX8 _).setCell hX8 _
    have g0 : ((wz2.setCell ⟨B10, 0, none⟩ (.int .i64 S2)).setCell ⟨B10, 1, none⟩ (.int .i64 V2)).cell? ⟨B10, 0, none⟩ = some (.int .i64 S2) := by simp [go_sem, x0]
    have g1 : ((wz2.setCell ⟨B10, 0, none⟩ (.int .i64 S2)).setCell ⟨B10, 1, none⟩ (.int .i64 V2)).cell? ⟨B10, 1, none⟩ = some (.int .i64 V2) := by simp [go_sem, x1]
    have KK := Lib.hid (KK.out.trans G2)
    have HD := Lib.hid (HD.out.keep G2)
    have a0 := G2.some a0
    have a1 := G2.some a1
    have d0 := G2.some d0
    have d1 := G2.some d1
    have d2 := G2.some d2
    have d3 := G2.some d3
    have c0 := G2.some c0
    have c1 := G2.some c1
    have e0 := G2.some e0
    have e1 := G2.some e1
    have f0 := G2.some f0
    have f1 := G2.some f1
    clear G
    go_upto_region 3 with fail
    obtain ⟨W3, hW3⟩ : ∃ W3, (wz2.setCell ⟨B10, 0, none⟩ (.int .i64 S2)).setCell ⟨B10, 1, none⟩ (.int .i64 V2) = W3 := ⟨_, rfl⟩
    rw [hW3] at a0 a1 d0 d1 d2 d3 c0 c1 e0 e1 f0 f1 g0 g1 HD KK
    try rw [hW3]
    clear hW3 x0 x1 y0 y1 G2 hX8
    refine region_lin (W0 := W3) (listF [fun v ww => v = .agg #[.int .i64 b0, .int .i64 b1], fun v ww => v = .agg #[.int .u32 B, .int .u32 R, .slice ga gl gc, .slice sa sl sc], fun v ww => v = .agg #[.int .i64 X, .int .i64 Y], fun v ww => v = .agg #[.int .i64 b0, .int .i64 b1, .int .i64 X, .int .i64 Y], fun v ww => v = .int .i64 0]) (listF_stable _ ⟨fun _ _ _ _ h => h, fun _ _ _ _ h => h, fun _ _ _ _ h => h, fun _ _ _ _ h => h, fun _ _ _ _ h => h, trivial⟩) (by kernel_rfl) (by kernel_rfl) (by kernel_rfl) (by kernel_rfl) (Keep.refl _) ?done3 ?steps3
    case done3 =>
      intro T3 wz3 hJ
      obtain ⟨x0, t0, f0⟩ := hJ.fact 0 42 (by decide) (by kernel_rfl)
      obtain rfl : x0 = .agg #[.int .i64 b0, .int .i64 b1] := f0
      obtain ⟨x1, t1, f1⟩ := hJ.fact 1 43 (by decide) (by kernel_rfl)
      obtain rfl : x1 = .agg #[.int .u32 B, .int .u32 R, .slice ga gl gc, .slice sa sl sc] := f1
      obtain ⟨x2, t2, f2⟩ := hJ.fact 2 44 (by decide) (by kernel_rfl)
      obtain rfl : x2 = .agg #[.int .i64 X, .int .i64 Y] := f2
      obtain ⟨x3, t3, f3⟩ := hJ.fact 3 45 (by decide) (by kernel_rfl)
      obtain rfl : x3 = .agg #[.int .i64 b0, .int .i64 b1, .int .i64 X, .int .i64 Y] := f3
      obtain ⟨x4, t4, f4⟩ := hJ.fact 4 46 (by decide) (by kernel_rfl)
      obtain rfl : x4 = .int .i64 0 := f4
      have hfr := hJ.frame [(42, .agg #[.int .i64 b0, .int .i64 b1]), (43, .agg #[.int .u32 B, .int .u32 R, .slice ga gl gc, .slice sa sl sc]), (44, .agg #[.int .i64 X, .int .i64 Y]), (45, .agg #[.int .i64 b0, .int .i64 b1, .int .i64 X, .int .i64 Y]), (46, .int .i64 0)] (by simp [t0, t1, t2, t3, t4]) (by kernel_rfl)
      have G := hJ.keep
      clear hJ t0 t1 t2 t3 t4
      rw [hfr]
      clear hfr T3
      simp only [List.foldl_cons, List.foldl_nil, List.setIfInBounds_toArray, List.set_cons_zero, List.set_cons_succ]
      have KK := Lib.hid (KK.out.trans G)
      have c0 := G.some c0
      have c1 := G.some c1
      have f0 := G.some f0
      have f1 := G.some f1
      have g0 := G.some g0
      have g1 := G.some g1
      clear HD G a0 a1 d0 d1 d2 d3 e0 e1
      have HIX : Hid (∀ i : Nat, i < 2 → ∃ u0 u1 : Int, ∀ w', (Instr.index 69 (.agg #[.int .i64 b0, .int .i64 b1, .int .i64 X, .int .i64 Y]) (.int .i64 (i : Int))).run Try.prog w' = .ok (.agg #[.int .i64 u0, .int .i64 u1]) w') := Lib.hid fun i hi => by
        obtain rfl | rfl : i = 0 ∨ i = 1 := by omega
        · exact ⟨b0, b1, fun w' => by kernel_rfl⟩
        · exact ⟨X, Y, fun w' => by kernel_rfl⟩
      have HJX : Hid (∀ i : Nat, i < 3 → ∃ u0 u1 : Int, ∀ w', (Instr.index 66 (.agg #[.int .i64 s0, .int .i64 s1, .int .i64 P1, .int .i64 Q1, .int .i64 S2, .int .i64 V2]) (.int .i64 (i : Int))).run Try.prog w' = .ok (.agg #[.int .i64 u0, .int .i64 u1]) w') := Lib.hid fun i hi => by
        obtain rfl | rfl | rfl : i = 0 ∨ i = 1 ∨ i = 2 := by omega
        · exact ⟨s0, s1, fun w' => by kernel_rfl⟩
        · exact ⟨P1, Q1, fun w' => by kernel_rfl⟩
        · exact ⟨S2, V2, fun w' => by kernel_rfl⟩
      go_wp2
      go_loopw [46] (fun s46 wr => ∃ i : Nat, i ≤ 2 ∧ s46 = .int .i64 (i : Int) ∧ Hid (Keep wz3 wr)) (fun i _ => 2 - (intOf i).toNat)
      case atStart => exact ⟨0, by omega, rfl, Lib.hid (Keep.refl _)⟩
      case round =>
        obtain ⟨i, hi, rfl, HR⟩ := hrel
        have KK := Lib.hid (KK.out.trans HR.out)
        have c0 := HR.out.some c0
        have c1 := HR.out.some c1
        have f0 := HR.out.some f0
        have f1 := HR.out.some f1
        have g0 := HR.out.some g0
        have g1 := HR.out.some g1
        have hc0 := cellBlock c0
        have hf0 := cellBlock f0
        have hg0 := cellBlock g0
        by_cases hlt : i < 2
        · obtain ⟨u0, u1, hix⟩ := HIX.out i hlt
          have hlt' : (i : Int) < 2 := by omega
          go_upto_region 6 with fail
          obtain ⟨B12, hB12⟩ : ∃ B12, wr.heap.size = B12 := ⟨_, rfl⟩
          have i0 : (wr.alloc (.cells #[.int .i64 u0, .int .i64 u1] 30)).cell? ⟨wr.heap.size, 0, none⟩ = some (.int .i64 u0) := by simp [go_sem]
          have i1 : (wr.alloc (.cells #[.int .i64 u0, .int .i64 u1] 30)).cell? ⟨wr.heap.size, 1, none⟩ = some (.int .i64 u1) := by simp [go_sem]
          have c0 := cell_alloc_old (.cells #[.int .i64 u0, .int .i64 u1] 30) c0
          have c1 := cell_alloc_old (.cells #[.int .i64 u0, .int .i64 u1] 30) c1
          have f0 := cell_alloc_old (.cells #[.int .i64 u0, .int .i64 u1] 30) f0
          have f1 := cell_alloc_old (.cells #[.int .i64 u0, .int .i64 u1] 30) f1
          have g0 := cell_alloc_old (.cells #[.int .i64 u0, .int .i64 u1] 30) g0
          have g1 := cell_alloc_old (.cells #[.int .i64 u0, .int .i64 u1] 30) g1
          have HR := Lib.hid (HR.out.alloc (.cells #[.int .i64 u0, .int .i64 u1] 30))
          obtain ⟨W4, hW4⟩ : ∃ W4, wr.alloc (.cells #[.int .i64 u0, .int .i64 u1] 30) = W4 := ⟨_, rfl⟩
          rw [hB12] at i0 i1
          try rw [hB12]
          rw [hW4] at c0 c1 f0 f1 g0 g1 i0 i1 HR
          try rw [hW4]
          clear hW4 hB12 hc0 hf0 hg0 KK hix
          go_wp2
          go_loopw [53] (fun s53 wr2 => ∃ j : Nat, j ≤ 3 ∧ s53 = .int .i64 (j : Int) ∧ Hid (Keep W4 wr2)) (fun j _ => 3 - (intOf j).toNat)
          case atStart => exact ⟨0, by omega, rfl, Lib.hid (Keep.refl _)⟩
          case round =>
            obtain ⟨j, hj, rfl, KK⟩ := hrel
            have i0 := KK.out.some i0
            have i1 := KK.out.some i1
            have hi0 := cellBlock i0
            by_cases hjlt : j < 3
            · obtain ⟨x0, x1, hjx⟩ := HJX.out j hjlt
              have hjlt' : (j : Int) < 3 := by omega
              obtain ⟨⟨M, E1⟩, hm⟩ : ∃ r, backlogR u0 u1 x0 x1 = r := ⟨_, rfl⟩
              obtain ⟨⟨⟨O0, O1⟩, E2⟩, ho⟩ : ∃ r, outputR u0 u1 x0 x1 = r := ⟨_, rfl⟩
              have H1 := Lib.hid hm
              have H2 := Lib.hid ho
              have eM : (M != M) = false := by simp
              have eO0 : (O0 == O0) = true := by simp
              have eO1 : (O1 == O1) = true := by simp
              have eE1 : (E1 != E1) = false := by simp
              have eE2 : (E2 != E2) = false := by simp
              clear hm ho
              go_wp2_with fail
              go_at_call 35
              refine (backlog_is u0 u1 x0 x1 M E1 _ H1).mono ?_
              rintro _ w1 ⟨rfl, k1⟩
              have y0 : w1.cell? ⟨wr.heap.size, 0, none⟩ = some (.int .i64 x0) := k1.some (by first | (simp [go_sem]; done) | exact cell_alloc_old _ (by simp [go_sem]) | exact cell_alloc_old _ (cell_alloc_old _ (by simp [go_sem])))
              have y1 : w1.cell? ⟨wr.heap.size, 1, none⟩ = some (.int .i64 x1) := k1.some (by first | (simp [go_sem]; done) | exact cell_alloc_old _ (by simp [go_sem]) | exact cell_alloc_old _ (cell_alloc_old _ (by simp [go_sem])))
              have i0 := k1.some (by first | exact i0 | exact cell_alloc_old _ i0 | exact cell_alloc_old _ (cell_alloc_old _ i0) | exact cell_alloc_old _ (cell_alloc_old _ (cell_alloc_old _ i0)))
              have i1 := k1.some (by first | exact i1 | exact cell_alloc_old _ i1 | exact cell_alloc_old _ (cell_alloc_old _ i1) | exact cell_alloc_old _ (cell_alloc_old _ (cell_alloc_old _ i1)))
              have KK := Lib.hid (by first | exact KK.out.trans k1 | exact (KK.out.alloc _).trans k1 | exact ((KK.out.alloc _).alloc _).trans k1 | exact (((KK.out.alloc _).alloc _).alloc _).trans k1)
              have hi0 := cellBlock i0
              have hy0 := cellBlock y0
              go_wp2_with fail
              go_at_call 36
              refine (refBacklog_is u0 u1 x0 x1 M E1 _ H1).mono ?_
              rintro _ w2 ⟨rfl, k2⟩
              have i0 := k2.some (by first | exact i0 | exact cell_alloc_old _ i0 | exact cell_alloc_old _ (cell_alloc_old _ i0) | exact cell_alloc_old _ (cell_alloc_old _ (cell_alloc_old _ i0)))
              have i1 := k2.some (by first | exact i1 | exact cell_alloc_old _ i1 | exact cell_alloc_old _ (cell_alloc_old _ i1) | exact cell_alloc_old _ (cell_alloc_old _ (cell_alloc_old _ i1)))
              have y0 := k2.some (by first | exact y0 | exact cell_alloc_old _ y0 | exact cell_alloc_old _ (cell_alloc_old _ y0) | exact cell_alloc_old _ (cell_alloc_old _ (cell_alloc_old _ y0)))
              have y1 := k2.some (by first | exact y1 | exact cell_alloc_old _ y1 | exact cell_alloc_old _ (cell_alloc_old _ y1) | exact cell_alloc_old _ (cell_alloc_old _ (cell_alloc_old _ y1)))
              have KK := Lib.hid (by first | exact KK.out.trans k2 | exact (KK.out.alloc _).trans k2 | exact ((KK.out.alloc _).alloc _).trans k2 | exact (((KK.out.alloc _).alloc _).alloc _).trans k2)
              have hi0 := cellBlock i0
              have hy0 := cellBlock y0
              go_wp2_with fail
              go_at_call 37
              refine (output_is u0 u1 x0 x1 O0 O1 E2 _ H2).mono ?_
              rintro _ w3 ⟨rfl, k3⟩
              have i0 := k3.some (by first | exact i0 | exact cell_alloc_old _ i0 | exact cell_alloc_old _ (cell_alloc_old _ i0) | exact cell_alloc_old _ (cell_alloc_old _ (cell_alloc_old _ i0)))
              have i1 := k3.some (by first | exact i1 | exact cell_alloc_old _ i1 | exact cell_alloc_old _ (cell_alloc_old _ i1) | exact cell_alloc_old _ (cell_alloc_old _ (cell_alloc_old _ i1)))
              have y0 := k3.some (by first | exact y0 | exact cell_alloc_old _ y0 | exact cell_alloc_old _ (cell_alloc_old _ y0) | exact cell_alloc_old _ (cell_alloc_old _ (cell_alloc_old _ y0)))
              have y1 := k3.some (by first | exact y1 | exact cell_alloc_old _ y1 | exact cell_alloc_old _ (cell_alloc_old _ y1) | exact cell_alloc_old _ (cell_alloc_old _ (cell_alloc_old _ y1)))
              have KK := Lib.hid (by first | exact KK.out.trans k3 | exact (KK.out.alloc _).trans k3 | exact ((KK.out.alloc _).alloc _).trans k3 | exact (((KK.out.alloc _).alloc _).alloc _).trans k3)
              have hi0 := cellBlock i0
              have hy0 := cellBlock y0
              go_wp2_with fail
              go_at_call 38
              refine (refOutput_is u0 u1 x0 x1 O0 O1 E2 _ H2).mono ?_
              rintro _ w4 ⟨rfl, k4⟩
              have o0 : w4.cell? ⟨w3.heap.size, 0, none⟩ = some (.int .i64 O0) := k4.some (by first | (simp [go_sem]; done) | exact cell_alloc_old _ (by simp [go_sem]) | exact cell_alloc_old _ (cell_alloc_old _ (by simp [go_sem])))
              have o1 : w4.cell? ⟨w3.heap.size, 1, none⟩ = some (.int .i64 O1) := k4.some (by first | (simp [go_sem]; done) | exact cell_alloc_old _ (by simp [go_sem]) | exact cell_alloc_old _ (cell_alloc_old _ (by simp [go_sem])))
              have i0 := k4.some (by first | exact i0 | exact cell_alloc_old _ i0 | exact cell_alloc_old _ (cell_alloc_old _ i0) | exact cell_alloc_old _ (cell_alloc_old _ (cell_alloc_old _ i0)))
              have i1 := k4.some (by first | exact i1 | exact cell_alloc_old _ i1 | exact cell_alloc_old _ (cell_alloc_old _ i1) | exact cell_alloc_old _ (cell_alloc_old _ (cell_alloc_old _ i1)))
              have y0 := k4.some (by first | exact y0 | exact cell_alloc_old _ y0 | exact cell_alloc_old _ (cell_alloc_old _ y0) | exact cell_alloc_old _ (cell_alloc_old _ (cell_alloc_old _ y0)))
              have y1 := k4.some (by first | exact y1 | exact cell_alloc_old _ y1 | exact cell_alloc_old _ (cell_alloc_old _ y1) | exact cell_alloc_old _ (cell_alloc_old _ (cell_alloc_old _ y1)))
              have KK := Lib.hid (by first | exact KK.out.trans k4 | exact (KK.out.alloc _).trans k4 | exact ((KK.out.alloc _).alloc _).trans k4 | exact (((KK.out.alloc _).alloc _).alloc _).trans k4)
              have hi0 := cellBlock i0
              have hy0 := cellBlock y0
              have ho0 := cellBlock o0
              clear hjx
              go_wp2
              go_roundw
              case rel => exact ⟨j + 1, by omega, rfl, Lib.hid (KK.out.alloc _)⟩
              case measure => simp [intOf]; omega
            · obtain rfl : j = 3 := by omega
              have HR := Lib.hid (HR.out.trans KK.out)
              go_wp2
              go_roundw
              case rel => exact ⟨i + 1, by omega, rfl, HR⟩
              case measure => simp [intOf]; omega
        · obtain rfl : i = 2 := by omega
          go_wp2_with (go_at_call 32; ((with_reducible refine (works4_yes _).mono ?_); rintro _ wk ⟨rfl, kw⟩))
          go_ret
          exact ⟨rfl, KK.out.trans kw⟩
    case steps3 =>
      refine LinSteps.cons (k := 0) ?_ (LinSteps.cons (k := 1) ?_ (LinSteps.cons (k := 2) ?_ (LinSteps.cons (k := 3) ?_ (LinSteps.cons (k := 4) ?_ (LinSteps.nil)))))
      · -- 0
        refine LinStep.plain rfl ?_
        intro QQ bb T ww hn hJ hd K HK
        have s4 := (hJ.oldSlot 4 (by kernel_rfl))
        simp only [List.getElem?_toArray, List.getElem?_cons_zero, List.getElem?_cons_succ] at s4
        have G := hJ.keep
        clear hJ hd hn
        have k0 := G.some a0
        have k1 := G.some a1
        go_simp
        exact HK.out _ _ (Keep.refl _) rfl
      · -- 1
        refine LinStep.plain rfl ?_
        intro QQ bb T ww hn hJ hd K HK
        have s5 := (hJ.oldSlot 5 (by kernel_rfl))
        simp only [List.getElem?_toArray, List.getElem?_cons_zero, List.getElem?_cons_succ] at s5
        have G := hJ.keep
        clear hJ hd hn
        have k0 := G.some d0
        have k1 := G.some d1
        have k2 := G.some d2
        have k3 := G.some d3
        go_simp
        exact HK.out _ _ (Keep.refl _) rfl
      · -- 2
        refine LinStep.plain rfl ?_
        intro QQ bb T ww hn hJ hd K HK
        obtain ⟨x1, t1, f1⟩ := hJ.dep hd 1 43 (by kernel_rfl) (by kernel_rfl)
        obtain rfl : x1 = .agg #[.int .u32 B, .int .u32 R, .slice ga gl gc, .slice sa sl sc] := f1
        have G := hJ.keep
        clear hJ hd hn
        have HDw := Lib.hid (HD.out.keep G)
        go_wp2_with (go_at_call 16; ((with_reducible refine (draftBucket_is _ B R gs ss _ HDw X Y HX HY).mono ?_); rintro _ w9 ⟨rfl, hk⟩))
        exact HK.out _ _ hk rfl
      · -- 3
        refine LinStep.plain rfl ?_
        intro QQ bb T ww hn hJ hd K HK
        obtain ⟨x0, t0, f0⟩ := hJ.dep hd 0 42 (by kernel_rfl) (by kernel_rfl)
        obtain rfl : x0 = .agg #[.int .i64 b0, .int .i64 b1] := f0
        obtain ⟨x2, t2, f2⟩ := hJ.dep hd 2 44 (by kernel_rfl) (by kernel_rfl)
        obtain rfl : x2 = .agg #[.int .i64 X, .int .i64 Y] := f2
        have G := hJ.keep
        clear hJ hd hn
        go_simp
        exact HK.out _ _ (Keep.refl _) rfl
      · -- 4
        refine LinStep.plain rfl ?_
        intro QQ bb T ww hn hJ hd K HK
        have G := hJ.keep
        clear hJ hd hn
        go_simp
        exact HK.out _ _ (Keep.refl _) rfl
  case steps2 =>
    refine LinSteps.cons (k := 0) ?_ (LinSteps.cons (k := 1) ?_ (LinSteps.cons (k := 2) ?_ (LinSteps.cons (k := 3) ?_ (LinSteps.cons (k := 4) ?_ (LinSteps.cons (k := 5) ?_ (LinSteps.cons (k := 6) ?_ (LinSteps.cons (k := 7) ?_ (LinSteps.cons (k := 8) ?_ (LinSteps.cons (k := 9) ?_ (LinSteps.cons (k := 10) ?_ (LinSteps.cons (k := 11) ?_ (LinSteps.cons (k := 12) ?_ (LinSteps.cons (k := 13) ?_ (LinSteps.cons (k := 14) ?_ (LinSteps.nil)))))))))))))))
    · -- 0
      refine LinStep.plain rfl ?_
      intro QQ bb T ww hn hJ hd K HK
      have s5 := (hJ.oldSlot 5 (by kernel_rfl))
      simp only [List.getElem?_toArray, List.getElem?_cons_zero, List.getElem?_cons_succ] at s5
      have G := hJ.keep
      clear hJ hd hn
      have k0 := G.some d0
      have k1 := G.some d1
      have k2 := G.some d2
      have k3 := G.some d3
      go_simp
      exact HK.out _ _ (Keep.refl _) rfl
    · -- 1
      refine LinStep.plain rfl ?_
      intro QQ bb T ww hn hJ hd K HK
      obtain ⟨x0, t0, f0⟩ := hJ.dep hd 0 28 (by kernel_rfl) (by kernel_rfl)
      obtain rfl : x0 = .agg #[.int .u32 B, .int .u32 R, .slice ga gl gc, .slice sa sl sc] := f0
      have G := hJ.keep
      clear hJ hd hn
      have HDw := Lib.hid (HD.out.keep G)
      go_wp2_with (go_at_call 16; ((with_reducible refine (draftBucket_is _ B R gs ss _ HDw X Y HX HY).mono ?_); rintro _ w9 ⟨rfl, hk⟩))
      exact HK.out _ _ hk rfl
    · -- 2
      refine LinStep.plain rfl ?_
      intro QQ bb T ww hn hJ hd K HK
      obtain ⟨x1, t1, f1⟩ := hJ.dep hd 1 29 (by kernel_rfl) (by kernel_rfl)
      obtain rfl : x1 = .agg #[.int .i64 X, .int .i64 Y] := f1
      have G := hJ.keep
      clear hJ hd hn
      go_simp
      exact HK.out _ _ (Keep.refl _) rfl
    · -- 3
      refine LinStep.plain rfl ?_
      intro QQ bb T ww hn hJ hd K HK
      have s7 := (hJ.oldSlot 7 (by kernel_rfl))
      simp only [List.getElem?_toArray, List.getElem?_cons_zero, List.getElem?_cons_succ] at s7
      have G := hJ.keep
      clear hJ hd hn
      go_simp
      exact HK.out _ _ (Keep.refl _) rfl
    · -- 4
      refine LinStep.plain rfl ?_
      intro QQ bb T ww hn hJ hd K HK
      obtain ⟨x3, t3, f3⟩ := hJ.dep hd 3 31 (by kernel_rfl) (by kernel_rfl)
      obtain rfl : x3 = .pointer (some ⟨BG + 1 + 1 + 1, 1, none⟩) := f3
      have G := hJ.keep
      clear hJ hd hn
      have k0 := G.some e1
      go_simp
      exact HK.out _ _ (Keep.refl _) rfl
    · -- 5
      refine LinStep.plain rfl ?_
      intro QQ bb T ww hn hJ hd K HK
      obtain ⟨x4, t4, f4⟩ := hJ.dep hd 4 32 (by kernel_rfl) (by kernel_rfl)
      obtain rfl : x4 = .int .u32 n1 := f4
      have G := hJ.keep
      clear hJ hd hn
      go_wp2
      exact HK.out _ _ (Keep.refl _) rfl
    · -- 6
      refine LinStep.plain rfl ?_
      intro QQ bb T ww hn hJ hd K HK
      obtain ⟨x5, t5, f5⟩ := hJ.dep hd 5 33 (by kernel_rfl) (by kernel_rfl)
      obtain rfl : x5 = .int .u32 (n1 % 999) := f5
      have G := hJ.keep
      clear hJ hd hn
      go_wp2
      exact HK.out _ _ (Keep.refl _) rfl
    · -- 7
      refine LinStep.plain rfl ?_
      intro QQ bb T ww hn hJ hd K HK
      obtain ⟨x2, t2, f2⟩ := hJ.dep hd 2 30 (by kernel_rfl) (by kernel_rfl)
      obtain rfl : x2 = .int .i64 Y := f2
      obtain ⟨x6, t6, f6⟩ := hJ.dep hd 6 34 (by kernel_rfl) (by kernel_rfl)
      obtain rfl : x6 = .int .i64 (n1 % 999) := f6
      have G := hJ.keep
      clear hJ hd hn
      go_wp2
      exact HK.out _ _ (Keep.refl _) rfl
    · -- 8
      refine LinStep.plain rfl ?_
      intro QQ bb T ww hn hJ hd K HK
      obtain ⟨x7, t7, f7⟩ := hJ.dep hd 7 35 (by kernel_rfl) (by kernel_rfl)
      obtain rfl : x7 = .int .i64 (Y + n1 % 999) := f7
      have G := hJ.keep
      clear hJ hd hn
      go_simp
      exact HK.out _ _ (Keep.refl _) rfl
    · -- 9
      refine LinStep.plain rfl ?_
      intro QQ bb T ww hn hJ hd K HK
      have s7 := (hJ.oldSlot 7 (by kernel_rfl))
      simp only [List.getElem?_toArray, List.getElem?_cons_zero, List.getElem?_cons_succ] at s7
      have G := hJ.keep
      clear hJ hd hn
      go_simp
      exact HK.out _ _ (Keep.refl _) rfl
    · -- 10
      refine LinStep.plain rfl ?_
      intro QQ bb T ww hn hJ hd K HK
      obtain ⟨x9, t9, f9⟩ := hJ.dep hd 9 37 (by kernel_rfl) (by kernel_rfl)
      obtain rfl : x9 = .pointer (some ⟨BG + 1 + 1 + 1, 1, none⟩) := f9
      have G := hJ.keep
      clear hJ hd hn
      have k0 := G.some e1
      go_simp
      exact HK.out _ _ (Keep.refl _) rfl
    · -- 11
      refine LinStep.plain rfl ?_
      intro QQ bb T ww hn hJ hd K HK
      obtain ⟨x10, t10, f10⟩ := hJ.dep hd 10 38 (by kernel_rfl) (by kernel_rfl)
      obtain rfl : x10 = .int .u32 n1 := f10
      have G := hJ.keep
      clear hJ hd hn
      go_wp2
      exact HK.out _ _ (Keep.refl _) rfl
    · -- 12
      refine LinStep.plain rfl ?_
      intro QQ bb T ww hn hJ hd K HK
      obtain ⟨x11, t11, f11⟩ := hJ.dep hd 11 39 (by kernel_rfl) (by kernel_rfl)
      obtain rfl : x11 = .int .u32 (n1 % 5000) := f11
      have G := hJ.keep
      clear hJ hd hn
      go_wp2
      exact HK.out _ _ (Keep.refl _) rfl
    · -- 13
      refine LinStep.plain rfl ?_
      intro QQ bb T ww hn hJ hd K HK
      obtain ⟨x8, t8, f8⟩ := hJ.dep hd 8 36 (by kernel_rfl) (by kernel_rfl)
      obtain rfl : x8 = .int .i64 (min 2097152 (Y + n1 % 999)) := f8
      obtain ⟨x12, t12, f12⟩ := hJ.dep hd 12 40 (by kernel_rfl) (by kernel_rfl)
      obtain rfl : x12 = .int .i64 (n1 % 5000) := f12
      have G := hJ.keep
      clear hJ hd hn
      go_simp
      exact HK.out _ _ (Keep.refl _) rfl
    · -- 14
      refine LinStep.plain rfl ?_
      intro QQ bb T ww hn hJ hd K HK
      have G := hJ.keep
      clear hJ hd hn
      go_simp
      exact HK.out _ _ (Keep.alloc (Keep.refl _) _) (⟨_, rfl, G.size, by simp [go_sem], by simp [go_sem], by simp [go_sem], by simp [go_sem]⟩)

theorem lawBounds_any (Dv : Value) (B R : Int) (gs ss : List Int) (b0 b1 s0 s1 n0 n1 : Int) (w : World) (h : DraftAt w Dv B R gs ss) (hn0 : 0 ≤ n0 ∧ n0 ≤ 4294967295) (hn1 : 0 ≤ n1 ∧ n1 ≤ 4294967295) :
    Calls Try.prog 7 #[.agg #[.int .i64 b0, .int .i64 b1], Dv, .agg #[.int .i64 s0, .int .i64 s1], .agg #[.int .u32 n0, .int .u32 n1]] w (Res (.bool true) w) := by
  have h' := h
  obtain ⟨⟨g, s, rfl, h1, h2⟩, h3, h4⟩ := h
  obtain ⟨ga, gl, gc, rfl, -⟩ := h1.form
  obtain ⟨sa, sl, sc, rfl, -⟩ := h2.form
  exact bounds_walk B R ga sa gl gc sl sc gs ss b0 b1 s0 s1 n0 n1 w (Lib.hid h') _ _ (Lib.hid rfl) (Lib.hid rfl) (Lib.hid (okBk_of B R)) hn0 hn1

end Go.Proofs.Ytmamadgikjkjdaa
