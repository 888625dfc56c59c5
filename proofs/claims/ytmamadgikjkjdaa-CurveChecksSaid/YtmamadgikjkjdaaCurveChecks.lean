/- CurveChecks' walk: Check and Join of the program and of the reference return the same. -/
import Derived.Test.YtmamadgikjkjdaaRefDelay
import Derived.Test.YtmamadgikjkjdaaWorks4
namespace Go.Proofs.Ytmamadgikjkjdaa
open Go Go.RowKit

set_option maxRecDepth 100000 in
set_option maxHeartbeats 16000000 in
theorem lawCurveChecks_any (a0 a1 b0 b1 n0 n1 n2 n3 : Int) (w : World) (h0 : 0 ≤ n0 ∧ n0 ≤ 4294967295) (h1 : 0 ≤ n1 ∧ n1 ≤ 4294967295) (h2 : 0 ≤ n2 ∧ n2 ≤ 4294967295) (h3 : 0 ≤ n3 ∧ n3 ≤ 4294967295) :
    Calls Try.prog 5 #[.agg #[.int .i64 a0, .int .i64 a1], .agg #[.int .i64 b0, .int .i64 b1], .agg #[.int .u32 n0, .int .u32 n1, .int .u32 n2, .int .u32 n3]] w (Res (.bool true) w) := by
  have KK := Lib.hid (((Keep.alloc (Keep.refl w) (.cells #[.int .i64 a0, .int .i64 a1] 54)).alloc (.cells #[.int .i64 b0, .int .i64 b1] 54)).alloc (.cells #[.int .u32 n0, .int .u32 n1, .int .u32 n2, .int .u32 n3] 55))
  have p0 : (((w.alloc (.cells #[.int .i64 a0, .int .i64 a1] 54)).alloc (.cells #[.int .i64 b0, .int .i64 b1] 54)).alloc (.cells #[.int .u32 n0, .int .u32 n1, .int .u32 n2, .int .u32 n3] 55)).cell? ⟨w.heap.size, 0, none⟩ = some (.int .i64 a0) := by simp [go_sem]
  have p1 : (((w.alloc (.cells #[.int .i64 a0, .int .i64 a1] 54)).alloc (.cells #[.int .i64 b0, .int .i64 b1] 54)).alloc (.cells #[.int .u32 n0, .int .u32 n1, .int .u32 n2, .int .u32 n3] 55)).cell? ⟨w.heap.size, 1, none⟩ = some (.int .i64 a1) := by simp [go_sem]
  have q0 : (((w.alloc (.cells #[.int .i64 a0, .int .i64 a1] 54)).alloc (.cells #[.int .i64 b0, .int .i64 b1] 54)).alloc (.cells #[.int .u32 n0, .int .u32 n1, .int .u32 n2, .int .u32 n3] 55)).cell? ⟨w.heap.size + 1, 0, none⟩ = some (.int .i64 b0) := by simp [go_sem]
  have q1 : (((w.alloc (.cells #[.int .i64 a0, .int .i64 a1] 54)).alloc (.cells #[.int .i64 b0, .int .i64 b1] 54)).alloc (.cells #[.int .u32 n0, .int .u32 n1, .int .u32 n2, .int .u32 n3] 55)).cell? ⟨w.heap.size + 1, 1, none⟩ = some (.int .i64 b1) := by simp [go_sem]
  have m0 : (((w.alloc (.cells #[.int .i64 a0, .int .i64 a1] 54)).alloc (.cells #[.int .i64 b0, .int .i64 b1] 54)).alloc (.cells #[.int .u32 n0, .int .u32 n1, .int .u32 n2, .int .u32 n3] 55)).cell? ⟨w.heap.size + 1 + 1, 0, none⟩ = some (.int .u32 n0) := by simp [go_sem]
  have m1 : (((w.alloc (.cells #[.int .i64 a0, .int .i64 a1] 54)).alloc (.cells #[.int .i64 b0, .int .i64 b1] 54)).alloc (.cells #[.int .u32 n0, .int .u32 n1, .int .u32 n2, .int .u32 n3] 55)).cell? ⟨w.heap.size + 1 + 1, 1, none⟩ = some (.int .u32 n1) := by simp [go_sem]
  have m2 : (((w.alloc (.cells #[.int .i64 a0, .int .i64 a1] 54)).alloc (.cells #[.int .i64 b0, .int .i64 b1] 54)).alloc (.cells #[.int .u32 n0, .int .u32 n1, .int .u32 n2, .int .u32 n3] 55)).cell? ⟨w.heap.size + 1 + 1, 2, none⟩ = some (.int .u32 n2) := by simp [go_sem]
  have m3 : (((w.alloc (.cells #[.int .i64 a0, .int .i64 a1] 54)).alloc (.cells #[.int .i64 b0, .int .i64 b1] 54)).alloc (.cells #[.int .u32 n0, .int .u32 n1, .int .u32 n2, .int .u32 n3] 55)).cell? ⟨w.heap.size + 1 + 1, 3, none⟩ = some (.int .u32 n3) := by simp [go_sem]
  obtain ⟨X1, hX1⟩ : ∃ X, 1 + n0 % 2097152 = X := ⟨_, rfl⟩
  obtain ⟨Y1, hY1⟩ : ∃ X, n1 % 268435457 = X := ⟨_, rfl⟩
  obtain ⟨X2, hX2⟩ : ∃ X, 1 + n2 % 2097152 = X := ⟨_, rfl⟩
  obtain ⟨Y2, hY2⟩ : ∃ X, n3 % 268435457 = X := ⟨_, rfl⟩
  have HX1 := Lib.hid hX1
  have HY1 := Lib.hid hY1
  have HX2 := Lib.hid hX2
  have HY2 := Lib.hid hY2
  have bX1 : 1 ≤ X1 ∧ X1 ≤ 2097152 := by omega
  have bY1 : 0 ≤ Y1 ∧ Y1 ≤ 268435456 := by omega
  have bX2 : 1 ≤ X2 ∧ X2 ≤ 2097152 := by omega
  have bY2 : 0 ≤ Y2 ∧ Y2 ≤ 268435456 := by omega
  clear hX1 hY1 hX2 hY2
  obtain ⟨BG, hBG⟩ : ∃ BG, w.heap.size = BG := ⟨_, rfl⟩
  obtain ⟨W0, hW0⟩ : ∃ W0, ((w.alloc (.cells #[.int .i64 a0, .int .i64 a1] 54)).alloc (.cells #[.int .i64 b0, .int .i64 b1] 54)).alloc (.cells #[.int .u32 n0, .int .u32 n1, .int .u32 n2, .int .u32 n3] 55) = W0 := ⟨_, rfl⟩
  go_enter Try.func5, Try.ntmps5
  go_upto_region 1 with fail
  rw [hBG] at p0 p1 q0 q1 m0 m1 m2 m3
  try rw [hBG]
  rw [hW0] at p0 p1 q0 q1 m0 m1 m2 m3 KK
  try rw [hW0]
  clear hW0 hBG
  refine region_inv (J := fun bb aa wx => ∃ v7 v8 v15 v16 v17 v18 v19 v20 v21 v22 v23 v24 : Value, aa = ⟨#[Value.agg #[Value.int IntKind.i64 a0, Value.int IntKind.i64 a1], Value.agg #[Value.int IntKind.i64 b0, Value.int IntKind.i64 b1], Value.agg #[Value.int IntKind.u32 n0, Value.int IntKind.u32 n1, Value.int IntKind.u32 n2, Value.int IntKind.u32 n3], Value.pointer (some { block := BG, off := 0 }), Value.pointer (some { block := BG + 1, off := 0 }), Value.pointer (some { block := BG + 1 + 1, off := 0 }), Value.bool false, v7, v8, undef, undef, undef, undef, undef, undef, v15, v16, v17, v18, v19, v20, v21, v22, v23, v24, undef, undef, undef, undef, undef, undef, undef, undef, undef, undef, undef, undef, undef, undef, undef, undef, undef, undef, undef, undef, undef, undef, undef, undef, undef, undef, undef, undef, undef, undef, undef, undef, undef, undef, undef, undef, undef, undef, undef, undef, undef, undef, undef, undef, undef, undef, undef, undef, undef, undef, undef, undef, undef, undef, undef, undef, undef, undef, undef, undef, undef, undef, undef, undef, undef], []⟩ ∧ Keep W0 wx ∧ (bb 0 → v15 = .pointer (some ⟨BG + 1 + 1, 0, none⟩)) ∧ (bb 1 → v16 = .int .u32 n0) ∧ (bb 2 → v17 = .pointer (some ⟨BG + 1 + 1, 1, none⟩)) ∧ (bb 3 → v18 = .int .u32 n1) ∧ (bb 4 → v19 = .agg #[.int .i64 X1, .int .i64 Y1]) ∧ (bb 5 → v20 = .pointer (some ⟨BG + 1 + 1, 2, none⟩)) ∧ (bb 6 → v21 = .int .u32 n2) ∧ (bb 7 → v22 = .pointer (some ⟨BG + 1 + 1, 3, none⟩)) ∧ (bb 8 → v23 = .int .u32 n3) ∧ (bb 9 → v24 = .agg #[.int .i64 X2, .int .i64 Y2]) ∧ (bb 10 → VarAt W0 wx v7 (bb 12) (.int .i64 X1) (.int .i64 Y1)) ∧ (bb 11 → VarAt W0 wx v8 (bb 13) (.int .i64 X2) (.int .i64 Y2)) ∧ (bb 12 → bb 10) ∧ (bb 13 → bb 11) ∧ (bb 10 → bb 11 → Apart v7 v8)) (by kernel_rfl) (by kernel_rfl) ?donex ?startx ?stepsx
  case donex =>
    rintro bb aa wx hb ⟨v7, v8, v15, v16, v17, v18, v19, v20, v21, v22, v23, v24, rfl, G, f0, f1, f2, f3, f4, f5, f6, f7, f8, f9, f10, f11, f12, f13, d10_11⟩
    replace hb : ∀ k, k < 14 → bb k := fun k hk => hb k hk
    have g0 := f0 (hb 0 (by decide))
    have g1 := f1 (hb 1 (by decide))
    have g2 := f2 (hb 2 (by decide))
    have g3 := f3 (hb 3 (by decide))
    have g4 := f4 (hb 4 (by decide))
    have g5 := f5 (hb 5 (by decide))
    have g6 := f6 (hb 6 (by decide))
    have g7 := f7 (hb 7 (by decide))
    have g8 := f8 (hb 8 (by decide))
    have g9 := f9 (hb 9 (by decide))
    have g10 := f10 (hb 10 (by decide))
    have g11 := f11 (hb 11 (by decide))
    have q10_11 := d10_11 (hb 10 (by decide)) (hb 11 (by decide))
    clear f0 f1 f2 f3 f4 f5 f6 f7 f8 f9 f10 f11 f12 f13 d10_11
    obtain rfl := g0
    obtain rfl := g1
    obtain rfl := g2
    obtain rfl := g3
    obtain rfl := g4
    obtain rfl := g5
    obtain rfl := g6
    obtain rfl := g7
    obtain rfl := g8
    obtain rfl := g9
    obtain ⟨X10, x10, y10, rfl, hX10, ⟨hc10, hd10⟩, ⟨hf10, hg10⟩, hs10⟩ := g10
    obtain ⟨rfl, rfl⟩ := hs10 (hb 12 (by decide))
    obtain ⟨X11, x11, y11, rfl, hX11, ⟨hc11, hd11⟩, ⟨hf11, hg11⟩, hs11⟩ := g11
    obtain ⟨rfl, rfl⟩ := hs11 (hb 13 (by decide))
    have KK := Lib.hid (KK.out.trans G)
    have p0 := G.some p0
    have p1 := G.some p1
    have q0 := G.some q0
    have q1 := G.some q1
    obtain ⟨Q9, hQ9⟩ : ∃ Q, Y2 % 9 = Q := ⟨_, rfl⟩
    have bQ : 0 ≤ Q9 ∧ Q9 ≤ 8 := by omega
    have HIX : Hid (∀ i : Nat, i < 5 → ∃ c0 c1 c2 c3 : Int, ∀ w', (Instr.index 58 (.agg #[.int .i64 a0, .int .i64 a1, .int .i64 b0, .int .i64 b1, .int .i64 X1, .int .i64 Y1, .int .i64 X2, .int .i64 Y2, .int .i64 X1, .int .i64 Y1, .int .i64 b0, .int .i64 b1, .int .i64 a0, .int .i64 Y1, .int .i64 X2, .int .i64 Y2, .int .i64 X1, .int .i64 a1, .int .i64 1, .int .i64 Q9]) (.int .i64 (i : Int))).run Try.prog w' = .ok (.agg #[.int .i64 c0, .int .i64 c1, .int .i64 c2, .int .i64 c3]) w') := Lib.hid fun i hi => by
      obtain rfl | rfl | rfl | rfl | rfl : i = 0 ∨ i = 1 ∨ i = 2 ∨ i = 3 ∨ i = 4 := by omega
      · exact ⟨a0, a1, b0, b1, fun w' => by kernel_rfl⟩
      · exact ⟨X1, Y1, X2, Y2, fun w' => by kernel_rfl⟩
      · exact ⟨X1, Y1, b0, b1, fun w' => by kernel_rfl⟩
      · exact ⟨a0, Y1, X2, Y2, fun w' => by kernel_rfl⟩
      · exact ⟨X1, a1, 1, Q9, fun w' => by kernel_rfl⟩
    clear hb G m0 m1 m2 m3 q10_11 hf10 hg10 hf11 hg11 hs10 hs11
    go_wp2
    clear hQ9
    go_loopw [52] (fun s52 wr => ∃ i : Nat, i ≤ 5 ∧ s52 = .int .i64 (i : Int) ∧ Hid (Keep w wr)) (fun i _ => 5 - (intOf i).toNat)
    case atStart => exact ⟨0, by omega, rfl, KK⟩
    case round =>
      obtain ⟨i, hi, rfl, KK⟩ := hrel
      by_cases hlt : i < 5
      · obtain ⟨c0, c1, c2, c3, hix⟩ := HIX.out i hlt
        have hlt' : (i : Int) < 5 := by omega
        obtain ⟨⟨⟨X, Y⟩, E⟩, hj⟩ : ∃ r, joinR c0 c1 c2 c3 = r := ⟨_, rfl⟩
        obtain ⟨E2, hE2⟩ : ∃ e, serveE c0 c1 = e := ⟨_, rfl⟩
        have HJ := Lib.hid hj
        have HE := Lib.hid hE2
        clear hj hE2 p0 p1 q0 q1 hc10 hd10 hc11 hd11
        go_wp2_with fail
        go_at_call 28
        refine (join_is c0 c1 c2 c3 X Y E _ HJ).mono ?_
        rintro _ w1 ⟨rfl, k1⟩
        have g0 : w1.cell? ⟨wr.heap.size, 0, none⟩ = some (.int .i64 c0) := k1.some (by first | (simp [go_sem]; done) | exact cell_alloc_old _ (by simp [go_sem]) | exact cell_alloc_old _ (cell_alloc_old _ (by simp [go_sem])))
        have g1 : w1.cell? ⟨wr.heap.size, 1, none⟩ = some (.int .i64 c1) := k1.some (by first | (simp [go_sem]; done) | exact cell_alloc_old _ (by simp [go_sem]) | exact cell_alloc_old _ (cell_alloc_old _ (by simp [go_sem])))
        have g2 : w1.cell? ⟨wr.heap.size, 2, none⟩ = some (.int .i64 c2) := k1.some (by first | (simp [go_sem]; done) | exact cell_alloc_old _ (by simp [go_sem]) | exact cell_alloc_old _ (cell_alloc_old _ (by simp [go_sem])))
        have g3 : w1.cell? ⟨wr.heap.size, 3, none⟩ = some (.int .i64 c3) := k1.some (by first | (simp [go_sem]; done) | exact cell_alloc_old _ (by simp [go_sem]) | exact cell_alloc_old _ (cell_alloc_old _ (by simp [go_sem])))
        have KK := Lib.hid (by first | exact KK.out.trans k1 | exact (KK.out.alloc _).trans k1 | exact ((KK.out.alloc _).alloc _).trans k1 | exact (((KK.out.alloc _).alloc _).alloc _).trans k1)
        have hg0 := cellBlock g0
        go_wp2_with fail
        go_at_call 29
        refine (refJoin_is c0 c1 c2 c3 X Y E _ HJ).mono ?_
        rintro _ w2 ⟨rfl, k2⟩
        have o0 : w2.cell? ⟨w1.heap.size, 0, none⟩ = some (.int .i64 X) := k2.some (by first | (simp [go_sem]; done) | exact cell_alloc_old _ (by simp [go_sem]) | exact cell_alloc_old _ (cell_alloc_old _ (by simp [go_sem])))
        have o1 : w2.cell? ⟨w1.heap.size, 1, none⟩ = some (.int .i64 Y) := k2.some (by first | (simp [go_sem]; done) | exact cell_alloc_old _ (by simp [go_sem]) | exact cell_alloc_old _ (cell_alloc_old _ (by simp [go_sem])))
        have g0 := k2.some (by first | exact g0 | exact cell_alloc_old _ g0 | exact cell_alloc_old _ (cell_alloc_old _ g0) | exact cell_alloc_old _ (cell_alloc_old _ (cell_alloc_old _ g0)))
        have g1 := k2.some (by first | exact g1 | exact cell_alloc_old _ g1 | exact cell_alloc_old _ (cell_alloc_old _ g1) | exact cell_alloc_old _ (cell_alloc_old _ (cell_alloc_old _ g1)))
        have g2 := k2.some (by first | exact g2 | exact cell_alloc_old _ g2 | exact cell_alloc_old _ (cell_alloc_old _ g2) | exact cell_alloc_old _ (cell_alloc_old _ (cell_alloc_old _ g2)))
        have g3 := k2.some (by first | exact g3 | exact cell_alloc_old _ g3 | exact cell_alloc_old _ (cell_alloc_old _ g3) | exact cell_alloc_old _ (cell_alloc_old _ (cell_alloc_old _ g3)))
        have KK := Lib.hid (by first | exact KK.out.trans k2 | exact (KK.out.alloc _).trans k2 | exact ((KK.out.alloc _).alloc _).trans k2 | exact (((KK.out.alloc _).alloc _).alloc _).trans k2)
        have hg0 := cellBlock g0
        have ho0 := cellBlock o0
        have hz0 := cellBlock o0
        have j0 : (w2.alloc (.cells #[.int .i64 X, .int .i64 Y] 54)).cell? ⟨w2.heap.size, 0, none⟩ = some (.int .i64 X) := by simp [go_sem]
        have j1 : (w2.alloc (.cells #[.int .i64 X, .int .i64 Y] 54)).cell? ⟨w2.heap.size, 1, none⟩ = some (.int .i64 Y) := by simp [go_sem]
        have o0 := cell_alloc_old (.cells #[.int .i64 X, .int .i64 Y] 54) o0
        have o1 := cell_alloc_old (.cells #[.int .i64 X, .int .i64 Y] 54) o1
        have g0 := cell_alloc_old (.cells #[.int .i64 X, .int .i64 Y] 54) g0
        have g1 := cell_alloc_old (.cells #[.int .i64 X, .int .i64 Y] 54) g1
        have KK := Lib.hid (KK.out.alloc (.cells #[.int .i64 X, .int .i64 Y] 54))
        have eX : (X == X) = true := by simp
        have eY : (Y == Y) = true := by simp
        have eE : (E != E) = false := by simp
        have eF : (E2 != E2) = false := by simp
        go_upto_region 7 with fail
        refine region_lin (W0 := (w2.alloc (.cells #[.int .i64 X, .int .i64 Y] 54))) (listF [fun v ww => v = .agg #[.int .i64 X, .int .i64 Y], fun v ww => v = .agg #[.int .i64 X, .int .i64 Y], fun v ww => v = .bool false, fun v ww => v = .bool false, fun v ww => v = .int .i64 E, fun v ww => v = .int .i64 E, fun v ww => v = .bool false, fun v ww => v = .bool false, fun v ww => v = .bool false, fun v ww => v = .pointer (some ⟨wr.heap.size, 0, none⟩), fun v ww => v = .agg #[.int .i64 c0, .int .i64 c1], fun v ww => v = .int .i64 E2, fun v ww => v = .pointer (some ⟨wr.heap.size, 0, none⟩), fun v ww => v = .agg #[.int .i64 c0, .int .i64 c1], fun v ww => v = .int .i64 E2, fun v ww => v = .bool false, fun v ww => v = .bool false]) (listF_stable _ ⟨fun _ _ _ _ h => h, fun _ _ _ _ h => h, fun _ _ _ _ h => h, fun _ _ _ _ h => h, fun _ _ _ _ h => h, fun _ _ _ _ h => h, fun _ _ _ _ h => h, fun _ _ _ _ h => h, fun _ _ _ _ h => h, fun _ _ _ _ h => h, fun _ _ _ _ h => h, fun _ _ _ _ h => h, fun _ _ _ _ h => h, fun _ _ _ _ h => h, fun _ _ _ _ h => h, fun _ _ _ _ h => h, fun _ _ _ _ h => h, trivial⟩) (by kernel_rfl) (by kernel_rfl) (by kernel_rfl) (by kernel_rfl) (Keep.refl _) ?done7 ?steps7
        case done7 =>
          intro T7 wz7 hJ
          obtain ⟨x0, t0, f0⟩ := hJ.fact 0 71 (by decide) (by kernel_rfl)
          obtain rfl : x0 = .agg #[.int .i64 X, .int .i64 Y] := f0
          obtain ⟨x1, t1, f1⟩ := hJ.fact 1 72 (by decide) (by kernel_rfl)
          obtain rfl : x1 = .agg #[.int .i64 X, .int .i64 Y] := f1
          obtain ⟨x2, t2, f2⟩ := hJ.fact 2 73 (by decide) (by kernel_rfl)
          obtain rfl : x2 = .bool false := f2
          obtain ⟨x3, t3, f3⟩ := hJ.fact 3 74 (by decide) (by kernel_rfl)
          obtain rfl : x3 = .bool false := f3
          obtain ⟨x4, t4, f4⟩ := hJ.fact 4 75 (by decide) (by kernel_rfl)
          obtain rfl : x4 = .int .i64 E := f4
          obtain ⟨x5, t5, f5⟩ := hJ.fact 5 76 (by decide) (by kernel_rfl)
          obtain rfl : x5 = .int .i64 E := f5
          obtain ⟨x6, t6, f6⟩ := hJ.fact 6 77 (by decide) (by kernel_rfl)
          obtain rfl : x6 = .bool false := f6
          obtain ⟨x7, t7, f7⟩ := hJ.fact 7 78 (by decide) (by kernel_rfl)
          obtain rfl : x7 = .bool false := f7
          obtain ⟨x8, t8, f8⟩ := hJ.fact 8 79 (by decide) (by kernel_rfl)
          obtain rfl : x8 = .bool false := f8
          obtain ⟨x9, t9, f9⟩ := hJ.fact 9 80 (by decide) (by kernel_rfl)
          obtain rfl : x9 = .pointer (some ⟨wr.heap.size, 0, none⟩) := f9
          obtain ⟨x10, t10, f10⟩ := hJ.fact 10 81 (by decide) (by kernel_rfl)
          obtain rfl : x10 = .agg #[.int .i64 c0, .int .i64 c1] := f10
          obtain ⟨x11, t11, f11⟩ := hJ.fact 11 82 (by decide) (by kernel_rfl)
          obtain rfl : x11 = .int .i64 E2 := f11
          obtain ⟨x12, t12, f12⟩ := hJ.fact 12 83 (by decide) (by kernel_rfl)
          obtain rfl : x12 = .pointer (some ⟨wr.heap.size, 0, none⟩) := f12
          obtain ⟨x13, t13, f13⟩ := hJ.fact 13 84 (by decide) (by kernel_rfl)
          obtain rfl : x13 = .agg #[.int .i64 c0, .int .i64 c1] := f13
          obtain ⟨x14, t14, f14⟩ := hJ.fact 14 85 (by decide) (by kernel_rfl)
          obtain rfl : x14 = .int .i64 E2 := f14
          obtain ⟨x15, t15, f15⟩ := hJ.fact 15 86 (by decide) (by kernel_rfl)
          obtain rfl : x15 = .bool false := f15
          obtain ⟨x16, t16, f16⟩ := hJ.fact 16 87 (by decide) (by kernel_rfl)
          obtain rfl : x16 = .bool false := f16
          have hfr := hJ.frame [(71, .agg #[.int .i64 X, .int .i64 Y]), (72, .agg #[.int .i64 X, .int .i64 Y]), (73, .bool false), (74, .bool false), (75, .int .i64 E), (76, .int .i64 E), (77, .bool false), (78, .bool false), (79, .bool false), (80, .pointer (some ⟨wr.heap.size, 0, none⟩)), (81, .agg #[.int .i64 c0, .int .i64 c1]), (82, .int .i64 E2), (83, .pointer (some ⟨wr.heap.size, 0, none⟩)), (84, .agg #[.int .i64 c0, .int .i64 c1]), (85, .int .i64 E2), (86, .bool false), (87, .bool false)] (by simp [t0, t1, t2, t3, t4, t5, t6, t7, t8, t9, t10, t11, t12, t13, t14, t15, t16]) (by kernel_rfl)
          have G := hJ.keep
          clear hJ t0 t1 t2 t3 t4 t5 t6 t7 t8 t9 t10 t11 t12 t13 t14 t15 t16
          rw [hfr]
          clear hfr T7
          simp only [List.foldl_cons, List.foldl_nil, List.setIfInBounds_toArray, List.set_cons_zero, List.set_cons_succ]
          have KK := Lib.hid (KK.out.trans G)
          clear o0 o1 j0 j1 g0 g1 g2 g3 hix
          go_wp2
          go_roundw
          case rel => first | exact ⟨i + 1, by omega, rfl, KK⟩ | ((repeat apply Exists.intro); exact ⟨⟨i + 1, by omega, rfl, KK⟩, rfl⟩)
          case measure => simp [intOf]; omega
        case steps7 =>
          refine LinSteps.cons (k := 0) ?_ (LinSteps.cons (k := 1) ?_ (LinSteps.cons (k := 2) ?_ (LinSteps.cons (k := 3) ?_ (LinSteps.cons (k := 4) ?_ (LinSteps.cons (k := 5) ?_ (LinSteps.cons (k := 6) ?_ (LinSteps.cons (k := 7) ?_ (LinSteps.cons (k := 8) ?_ (LinSteps.cons (k := 9) ?_ (LinSteps.cons (k := 10) ?_ (LinSteps.cons (k := 11) ?_ (LinSteps.cons (k := 12) ?_ (LinSteps.cons (k := 13) ?_ (LinSteps.cons (k := 14) ?_ (LinSteps.cons (k := 15) ?_ (LinSteps.cons (k := 16) ?_ (LinSteps.nil)))))))))))))))))
          · -- 0
            refine LinStep.plain rfl ?_
            intro QQ bb T ww hn hJ hd K HK
            have s11 := (hJ.oldSlot 11 (by kernel_rfl))
            simp only [List.getElem?_toArray, List.getElem?_cons_zero, List.getElem?_cons_succ] at s11
            have G := hJ.keep
            clear hJ hd hn
            have k0 := G.some o0
            have k1 := G.some o1
            go_simp
            exact HK.out _ _ (Keep.refl _) rfl
          · -- 1
            refine LinStep.plain rfl ?_
            intro QQ bb T ww hn hJ hd K HK
            have s13 := (hJ.oldSlot 13 (by kernel_rfl))
            simp only [List.getElem?_toArray, List.getElem?_cons_zero, List.getElem?_cons_succ] at s13
            have G := hJ.keep
            clear hJ hd hn
            have k0 := G.some j0
            have k1 := G.some j1
            go_simp
            exact HK.out _ _ (Keep.refl _) rfl
          · -- 2
            refine LinStep.plain rfl ?_
            intro QQ bb T ww hn hJ hd K HK
            obtain ⟨x0, t0, f0⟩ := hJ.dep hd 0 71 (by kernel_rfl) (by kernel_rfl)
            obtain rfl : x0 = .agg #[.int .i64 X, .int .i64 Y] := f0
            obtain ⟨x1, t1, f1⟩ := hJ.dep hd 1 72 (by kernel_rfl) (by kernel_rfl)
            obtain rfl : x1 = .agg #[.int .i64 X, .int .i64 Y] := f1
            have G := hJ.keep
            clear hJ hd hn
            go_simp
            exact HK.out _ _ (Keep.refl _) rfl
          · -- 3
            refine LinStep.plain rfl ?_
            intro QQ bb T ww hn hJ hd K HK
            obtain ⟨x2, t2, f2⟩ := hJ.dep hd 2 73 (by kernel_rfl) (by kernel_rfl)
            obtain rfl : x2 = .bool false := f2
            have G := hJ.keep
            clear hJ hd hn
            go_simp
            exact HK.out _ _ (Keep.refl _) rfl
          · -- 4
            refine LinStep.guarded 3 74 false rfl (by kernel_rfl) (by kernel_rfl) (fun _ _ h => h) ?_
            intro QQ bb T ww hn hJ hd K HK
            have s12 := (hJ.oldSlot 12 (by kernel_rfl))
            simp only [List.getElem?_toArray, List.getElem?_cons_zero, List.getElem?_cons_succ] at s12
            have G := hJ.keep
            clear hJ hd hn
            go_simp
            exact HK.out _ _ (Keep.refl _) rfl
          · -- 5
            refine LinStep.guarded 3 74 false rfl (by kernel_rfl) (by kernel_rfl) (fun _ _ h => h) ?_
            intro QQ bb T ww hn hJ hd K HK
            have s14 := (hJ.oldSlot 14 (by kernel_rfl))
            simp only [List.getElem?_toArray, List.getElem?_cons_zero, List.getElem?_cons_succ] at s14
            have G := hJ.keep
            clear hJ hd hn
            go_simp
            exact HK.out _ _ (Keep.refl _) rfl
          · -- 6
            refine LinStep.guarded 3 74 false rfl (by kernel_rfl) (by kernel_rfl) (fun _ _ h => h) ?_
            intro QQ bb T ww hn hJ hd K HK
            obtain ⟨x4, t4, f4⟩ := hJ.dep hd 4 75 (by kernel_rfl) (by kernel_rfl)
            obtain rfl : x4 = .int .i64 E := f4
            obtain ⟨x5, t5, f5⟩ := hJ.dep hd 5 76 (by kernel_rfl) (by kernel_rfl)
            obtain rfl : x5 = .int .i64 E := f5
            have G := hJ.keep
            clear hJ hd hn
            go_simp
            exact HK.out _ _ (Keep.refl _) rfl
          · -- 7
            refine LinStep.plain rfl ?_
            intro QQ bb T ww hn hJ hd K HK
            obtain ⟨x3, t3, f3⟩ := hJ.dep hd 3 74 (by kernel_rfl) (by kernel_rfl)
            obtain rfl : x3 = .bool false := f3
            obtain ⟨x6, t6, f6⟩ := hJ.dep hd 6 77 (by kernel_rfl) (by kernel_rfl)
            obtain rfl : x6 = .bool false := f6
            have G := hJ.keep
            clear hJ hd hn
            go_simp
            exact HK.out _ _ (Keep.refl _) rfl
          · -- 8
            refine LinStep.plain rfl ?_
            intro QQ bb T ww hn hJ hd K HK
            obtain ⟨x7, t7, f7⟩ := hJ.dep hd 7 78 (by kernel_rfl) (by kernel_rfl)
            obtain rfl : x7 = .bool false := f7
            have G := hJ.keep
            clear hJ hd hn
            go_simp
            exact HK.out _ _ (Keep.refl _) rfl
          · -- 9
            refine LinStep.guarded 8 79 false rfl (by kernel_rfl) (by kernel_rfl) (fun _ _ h => h) ?_
            intro QQ bb T ww hn hJ hd K HK
            have s10 := (hJ.oldSlot 10 (by kernel_rfl))
            simp only [List.getElem?_toArray, List.getElem?_cons_zero, List.getElem?_cons_succ] at s10
            have G := hJ.keep
            clear hJ hd hn
            go_simp
            exact HK.out _ _ (Keep.refl _) rfl
          · -- 10
            refine LinStep.guarded 8 79 false rfl (by kernel_rfl) (by kernel_rfl) (fun _ _ h => h) ?_
            intro QQ bb T ww hn hJ hd K HK
            obtain ⟨x9, t9, f9⟩ := hJ.dep hd 9 80 (by kernel_rfl) (by kernel_rfl)
            obtain rfl : x9 = .pointer (some ⟨wr.heap.size, 0, none⟩) := f9
            have G := hJ.keep
            clear hJ hd hn
            have k0 := G.some g0
            have k1 := G.some g1
            go_simp
            exact HK.out _ _ (Keep.refl _) rfl
          · -- 11
            refine LinStep.guarded 8 79 false rfl (by kernel_rfl) (by kernel_rfl) (fun _ _ h => h) ?_
            intro QQ bb T ww hn hJ hd K HK
            obtain ⟨x10, t10, f10⟩ := hJ.dep hd 10 81 (by kernel_rfl) (by kernel_rfl)
            obtain rfl : x10 = .agg #[.int .i64 c0, .int .i64 c1] := f10
            have G := hJ.keep
            clear hJ hd hn
            go_wp2_with (go_at_call 30; ((with_reducible refine (serve_is c0 c1 E2 _ HE).mono ?_); rintro _ w9 ⟨rfl, hk⟩))
            exact HK.out _ _ hk rfl
          · -- 12
            refine LinStep.guarded 8 79 false rfl (by kernel_rfl) (by kernel_rfl) (fun _ _ h => h) ?_
            intro QQ bb T ww hn hJ hd K HK
            have s10 := (hJ.oldSlot 10 (by kernel_rfl))
            simp only [List.getElem?_toArray, List.getElem?_cons_zero, List.getElem?_cons_succ] at s10
            have G := hJ.keep
            clear hJ hd hn
            go_simp
            exact HK.out _ _ (Keep.refl _) rfl
          · -- 13
            refine LinStep.guarded 8 79 false rfl (by kernel_rfl) (by kernel_rfl) (fun _ _ h => h) ?_
            intro QQ bb T ww hn hJ hd K HK
            obtain ⟨x12, t12, f12⟩ := hJ.dep hd 12 83 (by kernel_rfl) (by kernel_rfl)
            obtain rfl : x12 = .pointer (some ⟨wr.heap.size, 0, none⟩) := f12
            have G := hJ.keep
            clear hJ hd hn
            have k0 := G.some g0
            have k1 := G.some g1
            go_simp
            exact HK.out _ _ (Keep.refl _) rfl
          · -- 14
            refine LinStep.guarded 8 79 false rfl (by kernel_rfl) (by kernel_rfl) (fun _ _ h => h) ?_
            intro QQ bb T ww hn hJ hd K HK
            obtain ⟨x13, t13, f13⟩ := hJ.dep hd 13 84 (by kernel_rfl) (by kernel_rfl)
            obtain rfl : x13 = .agg #[.int .i64 c0, .int .i64 c1] := f13
            have G := hJ.keep
            clear hJ hd hn
            go_wp2_with (go_at_call 31; ((with_reducible refine (refServe_is c0 c1 E2 _ HE).mono ?_); rintro _ w9 ⟨rfl, hk⟩))
            exact HK.out _ _ hk rfl
          · -- 15
            refine LinStep.guarded 8 79 false rfl (by kernel_rfl) (by kernel_rfl) (fun _ _ h => h) ?_
            intro QQ bb T ww hn hJ hd K HK
            obtain ⟨x11, t11, f11⟩ := hJ.dep hd 11 82 (by kernel_rfl) (by kernel_rfl)
            obtain rfl : x11 = .int .i64 E2 := f11
            obtain ⟨x14, t14, f14⟩ := hJ.dep hd 14 85 (by kernel_rfl) (by kernel_rfl)
            obtain rfl : x14 = .int .i64 E2 := f14
            have G := hJ.keep
            clear hJ hd hn
            go_simp
            exact HK.out _ _ (Keep.refl _) rfl
          · -- 16
            refine LinStep.plain rfl ?_
            intro QQ bb T ww hn hJ hd K HK
            obtain ⟨x8, t8, f8⟩ := hJ.dep hd 8 79 (by kernel_rfl) (by kernel_rfl)
            obtain rfl : x8 = .bool false := f8
            obtain ⟨x15, t15, f15⟩ := hJ.dep hd 15 86 (by kernel_rfl) (by kernel_rfl)
            obtain rfl : x15 = .bool false := f15
            have G := hJ.keep
            clear hJ hd hn
            go_simp
            exact HK.out _ _ (Keep.refl _) rfl
      · obtain rfl : i = 5 := by omega
        go_wp2_with (go_at_call 32; ((with_reducible refine (works4_yes _).mono ?_); rintro _ wk ⟨rfl, kw⟩))
        go_ret
        exact ⟨rfl, KK.out.trans kw⟩
  case startx => exact ⟨_, _, _, _, _, _, _, _, _, _, _, _, rfl, Keep.drew (Keep.refl _), fun h => h.elim, fun h => h.elim, fun h => h.elim, fun h => h.elim, fun h => h.elim, fun h => h.elim, fun h => h.elim, fun h => h.elim, fun h => h.elim, fun h => h.elim, fun h => h.elim, fun h => h.elim, fun h => h.elim, fun h => h.elim, fun h => h.elim⟩
  case stepsx =>
    refine StepsFrom.cons (k := 0) ?_ (StepsFrom.cons (k := 1) ?_ (StepsFrom.cons (k := 2) ?_ (StepsFrom.cons (k := 3) ?_ (StepsFrom.cons (k := 4) ?_ (StepsFrom.cons (k := 5) ?_ (StepsFrom.cons (k := 6) ?_ (StepsFrom.cons (k := 7) ?_ (StepsFrom.cons (k := 8) ?_ (StepsFrom.cons (k := 9) ?_ (StepsFrom.cons (k := 10) ?_ (StepsFrom.cons (k := 11) ?_ (StepsFrom.cons (k := 12) ?_ (StepsFrom.cons (k := 13) ?_ (StepsFrom.nil))))))))))))))
    · -- 0: val
      rintro bb aa wx hn hd ⟨v7, v8, v15, v16, v17, v18, v19, v20, v21, v22, v23, v24, rfl, G, f0, f1, f2, f3, f4, f5, f6, f7, f8, f9, f10, f11, f12, f13, d10_11⟩ K hK
      have HK := Lib.hid hK
      clear hK
      go_simp
      exact HK.out _ _ ⟨_, _, _, _, _, _, _, _, _, _, _, _, rfl, G, fun _ => rfl, up (by decide) f1, up (by decide) f2, up (by decide) f3, up (by decide) f4, up (by decide) f5, up (by decide) f6, up (by decide) f7, up (by decide) f8, up (by decide) f9, fun h => (f10 (down (by decide) h)).step (Keep.refl _) (down (by decide)), fun h => (f11 (down (by decide) h)).step (Keep.refl _) (down (by decide)), fun h => Or.inr (f12 (down (by decide) h)), fun h => Or.inr (f13 (down (by decide) h)), fun h h' => d10_11 (down (by decide) h) (down (by decide) h')⟩
    · -- 1: val
      rintro bb aa wx hn hd ⟨v7, v8, v15, v16, v17, v18, v19, v20, v21, v22, v23, v24, rfl, G, f0, f1, f2, f3, f4, f5, f6, f7, f8, f9, f10, f11, f12, f13, d10_11⟩ K hK
      have b0 : bb 0 := hd ⟨0, .data⟩ (by simp) (by rfl)
      obtain rfl := f0 b0
      have k0 := G.some m0
      have HK := Lib.hid hK
      clear hK
      go_simp
      exact HK.out _ _ ⟨_, _, _, _, _, _, _, _, _, _, _, _, rfl, G, fun _ => rfl, fun _ => rfl, up (by decide) f2, up (by decide) f3, up (by decide) f4, up (by decide) f5, up (by decide) f6, up (by decide) f7, up (by decide) f8, up (by decide) f9, fun h => (f10 (down (by decide) h)).step (Keep.refl _) (down (by decide)), fun h => (f11 (down (by decide) h)).step (Keep.refl _) (down (by decide)), fun h => Or.inr (f12 (down (by decide) h)), fun h => Or.inr (f13 (down (by decide) h)), fun h h' => d10_11 (down (by decide) h) (down (by decide) h')⟩
    · -- 2: val
      rintro bb aa wx hn hd ⟨v7, v8, v15, v16, v17, v18, v19, v20, v21, v22, v23, v24, rfl, G, f0, f1, f2, f3, f4, f5, f6, f7, f8, f9, f10, f11, f12, f13, d10_11⟩ K hK
      have HK := Lib.hid hK
      clear hK
      go_simp
      exact HK.out _ _ ⟨_, _, _, _, _, _, _, _, _, _, _, _, rfl, G, up (by decide) f0, up (by decide) f1, fun _ => rfl, up (by decide) f3, up (by decide) f4, up (by decide) f5, up (by decide) f6, up (by decide) f7, up (by decide) f8, up (by decide) f9, fun h => (f10 (down (by decide) h)).step (Keep.refl _) (down (by decide)), fun h => (f11 (down (by decide) h)).step (Keep.refl _) (down (by decide)), fun h => Or.inr (f12 (down (by decide) h)), fun h => Or.inr (f13 (down (by decide) h)), fun h h' => d10_11 (down (by decide) h) (down (by decide) h')⟩
    · -- 3: val
      rintro bb aa wx hn hd ⟨v7, v8, v15, v16, v17, v18, v19, v20, v21, v22, v23, v24, rfl, G, f0, f1, f2, f3, f4, f5, f6, f7, f8, f9, f10, f11, f12, f13, d10_11⟩ K hK
      have b2 : bb 2 := hd ⟨2, .data⟩ (by simp) (by rfl)
      obtain rfl := f2 b2
      have k0 := G.some m1
      have HK := Lib.hid hK
      clear hK
      go_simp
      exact HK.out _ _ ⟨_, _, _, _, _, _, _, _, _, _, _, _, rfl, G, up (by decide) f0, up (by decide) f1, fun _ => rfl, fun _ => rfl, up (by decide) f4, up (by decide) f5, up (by decide) f6, up (by decide) f7, up (by decide) f8, up (by decide) f9, fun h => (f10 (down (by decide) h)).step (Keep.refl _) (down (by decide)), fun h => (f11 (down (by decide) h)).step (Keep.refl _) (down (by decide)), fun h => Or.inr (f12 (down (by decide) h)), fun h => Or.inr (f13 (down (by decide) h)), fun h h' => d10_11 (down (by decide) h) (down (by decide) h')⟩
    · -- 4: val
      rintro bb aa wx hn hd ⟨v7, v8, v15, v16, v17, v18, v19, v20, v21, v22, v23, v24, rfl, G, f0, f1, f2, f3, f4, f5, f6, f7, f8, f9, f10, f11, f12, f13, d10_11⟩ K hK
      have b1 : bb 1 := hd ⟨1, .data⟩ (by simp) (by rfl)
      obtain rfl := f1 b1
      have b3 : bb 3 := hd ⟨3, .data⟩ (by simp) (by rfl)
      obtain rfl := f3 b3
      have HK := Lib.hid hK
      clear hK
      go_wp2_with (go_at_call 27; ((with_reducible refine (svOf_is n0 n1 _ h0 h1 X1 Y1 HX1 HY1).mono ?_); rintro _ w9 ⟨rfl, hk⟩))
      exact HK.out _ _ ⟨_, _, _, _, _, _, _, _, _, _, _, _, rfl, (G.trans hk), up (by decide) f0, fun _ => rfl, up (by decide) f2, fun _ => rfl, fun _ => rfl, up (by decide) f5, up (by decide) f6, up (by decide) f7, up (by decide) f8, up (by decide) f9, fun h => (f10 (down (by decide) h)).step hk (down (by decide)), fun h => (f11 (down (by decide) h)).step hk (down (by decide)), fun h => Or.inr (f12 (down (by decide) h)), fun h => Or.inr (f13 (down (by decide) h)), fun h h' => d10_11 (down (by decide) h) (down (by decide) h')⟩
    · -- 5: val
      rintro bb aa wx hn hd ⟨v7, v8, v15, v16, v17, v18, v19, v20, v21, v22, v23, v24, rfl, G, f0, f1, f2, f3, f4, f5, f6, f7, f8, f9, f10, f11, f12, f13, d10_11⟩ K hK
      have HK := Lib.hid hK
      clear hK
      go_simp
      exact HK.out _ _ ⟨_, _, _, _, _, _, _, _, _, _, _, _, rfl, G, up (by decide) f0, up (by decide) f1, up (by decide) f2, up (by decide) f3, up (by decide) f4, fun _ => rfl, up (by decide) f6, up (by decide) f7, up (by decide) f8, up (by decide) f9, fun h => (f10 (down (by decide) h)).step (Keep.refl _) (down (by decide)), fun h => (f11 (down (by decide) h)).step (Keep.refl _) (down (by decide)), fun h => Or.inr (f12 (down (by decide) h)), fun h => Or.inr (f13 (down (by decide) h)), fun h h' => d10_11 (down (by decide) h) (down (by decide) h')⟩
    · -- 6: val
      rintro bb aa wx hn hd ⟨v7, v8, v15, v16, v17, v18, v19, v20, v21, v22, v23, v24, rfl, G, f0, f1, f2, f3, f4, f5, f6, f7, f8, f9, f10, f11, f12, f13, d10_11⟩ K hK
      have b5 : bb 5 := hd ⟨5, .data⟩ (by simp) (by rfl)
      obtain rfl := f5 b5
      have k0 := G.some m2
      have HK := Lib.hid hK
      clear hK
      go_simp
      exact HK.out _ _ ⟨_, _, _, _, _, _, _, _, _, _, _, _, rfl, G, up (by decide) f0, up (by decide) f1, up (by decide) f2, up (by decide) f3, up (by decide) f4, fun _ => rfl, fun _ => rfl, up (by decide) f7, up (by decide) f8, up (by decide) f9, fun h => (f10 (down (by decide) h)).step (Keep.refl _) (down (by decide)), fun h => (f11 (down (by decide) h)).step (Keep.refl _) (down (by decide)), fun h => Or.inr (f12 (down (by decide) h)), fun h => Or.inr (f13 (down (by decide) h)), fun h h' => d10_11 (down (by decide) h) (down (by decide) h')⟩
    · -- 7: val
      rintro bb aa wx hn hd ⟨v7, v8, v15, v16, v17, v18, v19, v20, v21, v22, v23, v24, rfl, G, f0, f1, f2, f3, f4, f5, f6, f7, f8, f9, f10, f11, f12, f13, d10_11⟩ K hK
      have HK := Lib.hid hK
      clear hK
      go_simp
      exact HK.out _ _ ⟨_, _, _, _, _, _, _, _, _, _, _, _, rfl, G, up (by decide) f0, up (by decide) f1, up (by decide) f2, up (by decide) f3, up (by decide) f4, up (by decide) f5, up (by decide) f6, fun _ => rfl, up (by decide) f8, up (by decide) f9, fun h => (f10 (down (by decide) h)).step (Keep.refl _) (down (by decide)), fun h => (f11 (down (by decide) h)).step (Keep.refl _) (down (by decide)), fun h => Or.inr (f12 (down (by decide) h)), fun h => Or.inr (f13 (down (by decide) h)), fun h h' => d10_11 (down (by decide) h) (down (by decide) h')⟩
    · -- 8: val
      rintro bb aa wx hn hd ⟨v7, v8, v15, v16, v17, v18, v19, v20, v21, v22, v23, v24, rfl, G, f0, f1, f2, f3, f4, f5, f6, f7, f8, f9, f10, f11, f12, f13, d10_11⟩ K hK
      have b7 : bb 7 := hd ⟨7, .data⟩ (by simp) (by rfl)
      obtain rfl := f7 b7
      have k0 := G.some m3
      have HK := Lib.hid hK
      clear hK
      go_simp
      exact HK.out _ _ ⟨_, _, _, _, _, _, _, _, _, _, _, _, rfl, G, up (by decide) f0, up (by decide) f1, up (by decide) f2, up (by decide) f3, up (by decide) f4, up (by decide) f5, up (by decide) f6, fun _ => rfl, fun _ => rfl, up (by decide) f9, fun h => (f10 (down (by decide) h)).step (Keep.refl _) (down (by decide)), fun h => (f11 (down (by decide) h)).step (Keep.refl _) (down (by decide)), fun h => Or.inr (f12 (down (by decide) h)), fun h => Or.inr (f13 (down (by decide) h)), fun h h' => d10_11 (down (by decide) h) (down (by decide) h')⟩
    · -- 9: val
      rintro bb aa wx hn hd ⟨v7, v8, v15, v16, v17, v18, v19, v20, v21, v22, v23, v24, rfl, G, f0, f1, f2, f3, f4, f5, f6, f7, f8, f9, f10, f11, f12, f13, d10_11⟩ K hK
      have b6 : bb 6 := hd ⟨6, .data⟩ (by simp) (by rfl)
      obtain rfl := f6 b6
      have b8 : bb 8 := hd ⟨8, .data⟩ (by simp) (by rfl)
      obtain rfl := f8 b8
      have HK := Lib.hid hK
      clear hK
      go_wp2_with (go_at_call 27; ((with_reducible refine (svOf_is n2 n3 _ h2 h3 X2 Y2 HX2 HY2).mono ?_); rintro _ w9 ⟨rfl, hk⟩))
      exact HK.out _ _ ⟨_, _, _, _, _, _, _, _, _, _, _, _, rfl, (G.trans hk), up (by decide) f0, up (by decide) f1, up (by decide) f2, up (by decide) f3, up (by decide) f4, up (by decide) f5, fun _ => rfl, up (by decide) f7, fun _ => rfl, fun _ => rfl, fun h => (f10 (down (by decide) h)).step hk (down (by decide)), fun h => (f11 (down (by decide) h)).step hk (down (by decide)), fun h => Or.inr (f12 (down (by decide) h)), fun h => Or.inr (f13 (down (by decide) h)), fun h h' => d10_11 (down (by decide) h) (down (by decide) h')⟩
    · -- 10: alloc
      rintro bb aa wx hn hd ⟨v7, v8, v15, v16, v17, v18, v19, v20, v21, v22, v23, v24, rfl, G, f0, f1, f2, f3, f4, f5, f6, f7, f8, f9, f10, f11, f12, f13, d10_11⟩ K hK
      have HK := Lib.hid hK
      clear hK
      go_simp
      exact HK.out _ _ ⟨_, _, _, _, _, _, _, _, _, _, _, _, rfl, (G.trans (Keep.alloc (Keep.refl _) _)), up (by decide) f0, up (by decide) f1, up (by decide) f2, up (by decide) f3, up (by decide) f4, up (by decide) f5, up (by decide) f6, up (by decide) f7, up (by decide) f8, up (by decide) f9, fun _ => VarAt.new G (fun h => hn (f12 (h.resolve_left (by decide)))), fun h => (f11 (down (by decide) h)).step (Keep.alloc (Keep.refl _) _) (down (by decide)), fun _ => Or.inl rfl, fun h => Or.inr (f13 (down (by decide) h)), fun _ h => (f11 (down (by decide) h)).apartNew.symm⟩
    · -- 11: alloc
      rintro bb aa wx hn hd ⟨v7, v8, v15, v16, v17, v18, v19, v20, v21, v22, v23, v24, rfl, G, f0, f1, f2, f3, f4, f5, f6, f7, f8, f9, f10, f11, f12, f13, d10_11⟩ K hK
      have HK := Lib.hid hK
      clear hK
      go_simp
      exact HK.out _ _ ⟨_, _, _, _, _, _, _, _, _, _, _, _, rfl, (G.trans (Keep.alloc (Keep.refl _) _)), up (by decide) f0, up (by decide) f1, up (by decide) f2, up (by decide) f3, up (by decide) f4, up (by decide) f5, up (by decide) f6, up (by decide) f7, up (by decide) f8, up (by decide) f9, fun h => (f10 (down (by decide) h)).step (Keep.alloc (Keep.refl _) _) (down (by decide)), fun _ => VarAt.new G (fun h => hn (f13 (h.resolve_left (by decide)))), fun h => Or.inr (f12 (down (by decide) h)), fun _ => Or.inl rfl, fun h _ => (f10 (down (by decide) h)).apartNew⟩
    · -- 12: store
      rintro bb aa wx hn hd ⟨v7, v8, v15, v16, v17, v18, v19, v20, v21, v22, v23, v24, rfl, G, f0, f1, f2, f3, f4, f5, f6, f7, f8, f9, f10, f11, f12, f13, d10_11⟩ K hK
      have b10 : bb 10 := hd ⟨10, .data⟩ (by simp) (by rfl)
      have b4 : bb 4 := hd ⟨4, .data⟩ (by simp) (by rfl)
      obtain rfl := f4 b4
      obtain ⟨X, c0, c1, rfl, hX, ⟨hc0, hc1⟩, ⟨hf0, hf1⟩, -⟩ := f10 b10
      have HK := Lib.hid hK
      clear hK
      go_simp
      exact HK.out _ _ ⟨_, _, _, _, _, _, _, _, _, _, _, _, rfl, ((G.setCell hX _).setCell hX _), up (by decide) f0, up (by decide) f1, up (by decide) f2, up (by decide) f3, fun _ => rfl, up (by decide) f5, up (by decide) f6, up (by decide) f7, up (by decide) f8, up (by decide) f9, fun _ => VarAt.here hX hc0 hc1 hf0 hf1, fun h => (f11 (down (by decide) h)).other ((d10_11 b10 (down (by decide) h)).symm) (down (by decide)), fun _ => Or.inr b10, fun h => Or.inr (f13 (down (by decide) h)), fun h h' => d10_11 (down (by decide) h) (down (by decide) h')⟩
    · -- 13: store
      rintro bb aa wx hn hd ⟨v7, v8, v15, v16, v17, v18, v19, v20, v21, v22, v23, v24, rfl, G, f0, f1, f2, f3, f4, f5, f6, f7, f8, f9, f10, f11, f12, f13, d10_11⟩ K hK
      have b11 : bb 11 := hd ⟨11, .data⟩ (by simp) (by rfl)
      have b9 : bb 9 := hd ⟨9, .data⟩ (by simp) (by rfl)
      obtain rfl := f9 b9
      obtain ⟨X, c0, c1, rfl, hX, ⟨hc0, hc1⟩, ⟨hf0, hf1⟩, -⟩ := f11 b11
      have HK := Lib.hid hK
      clear hK
      go_simp
      exact HK.out _ _ ⟨_, _, _, _, _, _, _, _, _, _, _, _, rfl, ((G.setCell hX _).setCell hX _), up (by decide) f0, up (by decide) f1, up (by decide) f2, up (by decide) f3, up (by decide) f4, up (by decide) f5, up (by decide) f6, up (by decide) f7, up (by decide) f8, fun _ => rfl, fun h => (f10 (down (by decide) h)).other (d10_11 (down (by decide) h) b11) (down (by decide)), fun _ => VarAt.here hX hc0 hc1 hf0 hf1, fun h => Or.inr (f12 (down (by decide) h)), fun _ => Or.inr b11, fun h h' => d10_11 (down (by decide) h) (down (by decide) h')⟩

end Go.Proofs.Ytmamadgikjkjdaa
