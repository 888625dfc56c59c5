/- BucketKnown's walk: the examples, invalid buckets and traces, results at their limits, the order of errors. Written by genknown3.py. -/
import Derived.Test.YtmamadgikjkjdaaLawLevels
import Derived.Test.YtmamadgikjkjdaaLin
namespace Go.Proofs.Ytmamadgikjkjdaa
open Go Go.RowKit

theorem bad_conforms {B R : Int} (h : okBk B R = false) (l : List (Int × Int)) : conformsR B R l = (false, 130) := by
  rw [conformsR_no (fun h' => by rw [h] at h'; cases h'.1)]
  unfold errR
  rw [if_neg (by rw [h]; simp)]
theorem bad_first {B R : Int} (h : okBk B R = false) (l : List (Int × Int)) : firstR B R l = (0, 130) := by
  unfold firstR
  rw [if_neg (by rw [h]; simp)]
theorem bad_within {B R : Int} (h : okBk B R = false) (t : Int) : withinR B R t = (0, 130) := by
  unfold withinR
  rw [if_neg (by rw [h]; simp)]
theorem bad_sum {B R : Int} (h : okBk B R = false) : sumR [(1, 1), (B, R)] = ((0, 0), 130) := by
  unfold sumR
  rw [if_neg (by simp), if_neg (by simp)]
  unfold sumS
  rw [if_neg]
  rw [okEach_no (k := 1) (by simp) (by simpa [atL, szL] using h)]
  simp
theorem bad_check {B R : Int} (h : okBk B R = false) : checkE B R = 130 := by
  unfold checkE
  rw [if_neg (by rw [h]; simp)]
theorem badT_conforms {l : List (Int × Int)} (h : okT l = false) : conformsR 1 1 l = (false, 131) := by
  rw [conformsR_no (fun h' => by rw [h] at h'; cases h'.2)]
  unfold errR
  rw [if_pos (by decide), if_neg (by rw [h]; simp)]
theorem badT_least {l : List (Int × Int)} (h : okT l = false) : leastR 1 l = (0, 131) := by
  unfold leastR
  rw [if_pos (by decide), if_neg (by rw [h]; simp)]
theorem badT_zero (l : List (Int × Int)) : leastR 0 l = (0, 2) := by
  unfold leastR
  rw [if_neg (by decide)]
theorem badT_check {l : List (Int × Int)} (h : okT l = false) : traceE l = 131 := by
  unfold traceE
  rw [if_neg (by rw [h]; simp)]
theorem rowMake (w : World) (n : Nat) (t : TypeId) (h : n ≤ 1000) : RowAt (w.alloc (.cells (cellsL (List.replicate n (0, 0))).toArray t)) (.slice (some ⟨w.heap.size, 0, none⟩) n n) (List.replicate n (0, 0)) := by
  have := rowNew w (List.replicate n (0, 0)) t (by simpa using h)
  simpa using this

set_option maxRecDepth 100000 in
set_option maxHeartbeats 16000000 in
theorem known3 (w : World) : Calls Try.prog 4 #[] w (Res (.bool true) w) := by
  have hmk : ∀ w' : World, (Instr.makeSlice 32 (.int .i64 201) (.int .i64 201)).run Try.prog w' = .ok (.slice (some ⟨w'.heap.size, 0, none⟩) 201 201) (w'.alloc (.cells (cellsL (List.replicate 201 (0, 0))).toArray 35)) := fun _ => by kernel_rfl
  have hmk2 : ∀ w' : World, (Instr.makeSlice 39 (.int .i64 13) (.int .i64 13)).run Try.prog w' = .ok (.slice (some ⟨w'.heap.size, 0, none⟩) 13 13) (w'.alloc (.cells (cellsL (List.replicate 13 (0, 0))).toArray 30)) := fun _ => by kernel_rfl
  have KK := Lib.hid (Keep.alloc (Keep.refl w) (.cells #[.int .i64 1, .int .i64 1] 30))
  have gd0 : (w.alloc (.cells #[.int .i64 1, .int .i64 1] 30)).cell? ⟨w.heap.size, 0, none⟩ = some (.int .i64 1) := by simp [go_sem]
  have gd1 : (w.alloc (.cells #[.int .i64 1, .int .i64 1] 30)).cell? ⟨w.heap.size, 1, none⟩ = some (.int .i64 1) := by simp [go_sem]
  have HIB : Hid (∀ i : Nat, i < 6 → ∃ c0 c1 : Int, (∀ w', (Instr.index 42 (.agg #[.int .i64 0, .int .i64 0, .int .i64 1, .int .i64 0, .int .i64 0, .int .i64 1, .int .i64 1048577, .int .i64 1, .int .i64 1, .int .i64 2097153, .int .i64 (-5), .int .i64 (-5)]) (.int .i64 (i : Int))).run Try.prog w' = .ok (.agg #[.int .i64 c0, .int .i64 c1]) w') ∧ okBk c0 c1 = false) := Lib.hid fun i hi => by
    obtain rfl | rfl | rfl | rfl | rfl | rfl : i = 0 ∨ i = 1 ∨ i = 2 ∨ i = 3 ∨ i = 4 ∨ i = 5 := by omega
    · exact ⟨0, 0, fun w' => by kernel_rfl, rfl⟩
    · exact ⟨1, 0, fun w' => by kernel_rfl, rfl⟩
    · exact ⟨0, 1, fun w' => by kernel_rfl, rfl⟩
    · exact ⟨1048577, 1, fun w' => by kernel_rfl, rfl⟩
    · exact ⟨1, 2097153, fun w' => by kernel_rfl, rfl⟩
    · exact ⟨-5, -5, fun w' => by kernel_rfl, rfl⟩
  go_enter Try.func4, Try.ntmps4
  go_wp2
  obtain ⟨BG, hBG⟩ : ∃ BG, w.heap.size = BG := ⟨_, rfl⟩
  obtain ⟨W0, hW0⟩ : ∃ W0, w.alloc (.cells #[.int .i64 1, .int .i64 1] 30) = W0 := ⟨_, rfl⟩
  rw [hBG] at gd0 gd1 ⊢
  rw [hW0] at gd0 gd1 KK ⊢
  clear hW0 hBG
  go_loopw [45] (fun s45 wr => ∃ i : Nat, i ≤ 6 ∧ s45 = .int .i64 (i : Int) ∧ Hid (Keep W0 wr)) (fun i _ => 6 - (intOf i).toNat)
  case atStart => exact ⟨0, by omega, rfl, Lib.hid (Keep.refl _)⟩
  case round =>
    obtain ⟨i, hi, rfl, HR⟩ := hrel
    by_cases hlt : i < 6
    · obtain ⟨c0, c1, hix, hbad⟩ := HIB.out i hlt
      have hlt' : (i : Int) < 6 := by omega
      have gd0 := HR.out.some gd0
      have gd1 := HR.out.some gd1
      have HC1 := Lib.hid (bad_conforms hbad [(5, 0)])
      have HC2 := Lib.hid (bad_first hbad [(5, 0)])
      have HC3 := Lib.hid (bad_within hbad (-1))
      have HC4 := Lib.hid (bad_sum hbad)
      have HC5 := Lib.hid (bad_check hbad)
      clear hbad
      go_upto_region 5 with fail
      have k0 : (wr.alloc (.cells #[.int .i64 c0, .int .i64 c1] 30)).cell? ⟨wr.heap.size, 0, none⟩ = some (.int .i64 c0) := by simp [go_sem]
      have k1 : (wr.alloc (.cells #[.int .i64 c0, .int .i64 c1] 30)).cell? ⟨wr.heap.size, 1, none⟩ = some (.int .i64 c1) := by simp [go_sem]
      have gd0 := cell_alloc_old (.cells #[.int .i64 c0, .int .i64 c1] 30) gd0
      have gd1 := cell_alloc_old (.cells #[.int .i64 c0, .int .i64 c1] 30) gd1
      have HW := Lib.hid (HR.out.alloc (.cells #[.int .i64 c0, .int .i64 c1] 30))
      obtain ⟨BC, hBC⟩ : ∃ BC, wr.heap.size = BC := ⟨_, rfl⟩
      obtain ⟨W4, hW4⟩ : ∃ W4, wr.alloc (.cells #[.int .i64 c0, .int .i64 c1] 30) = W4 := ⟨_, rfl⟩
      rw [hBC] at k0 k1 ⊢
      rw [hW4] at k0 k1 gd0 gd1 HW ⊢
      clear hW4 hBC
      refine region_inv (J := fun bb aa wx => ∃ v4 v5 v48 v49 v50 v51 v52 v53 v54 : Value, aa = ⟨#[u0, Value.pointer (some { block := BG, off := 0 }), undef, Value.pointer (some { block := BC, off := 0 }), v4, v5, u6, u7, u8, u9, u10, u11, undef, undef, undef, undef, undef, undef, undef, undef, undef, undef, undef, undef, undef, undef, undef, undef, undef, undef, undef, undef, undef, undef, undef, undef, undef, Value.agg #[Value.int IntKind.i64 1, Value.int IntKind.i64 1], Value.agg #[Value.int IntKind.i64 0, Value.int IntKind.i64 0], Value.agg #[Value.int IntKind.i64 1, Value.int IntKind.i64 0], Value.agg #[Value.int IntKind.i64 0, Value.int IntKind.i64 1], Value.agg #[Value.int IntKind.i64 1048577, Value.int IntKind.i64 1], Value.agg #[Value.int IntKind.i64 1, Value.int IntKind.i64 2097153], Value.agg #[Value.int IntKind.i64 (-5), Value.int IntKind.i64 (-5)], Value.agg #[Value.int IntKind.i64 0, Value.int IntKind.i64 0, Value.int IntKind.i64 1, Value.int IntKind.i64 0, Value.int IntKind.i64 0, Value.int IntKind.i64 1, Value.int IntKind.i64 1048577, Value.int IntKind.i64 1, Value.int IntKind.i64 1, Value.int IntKind.i64 2097153, Value.int IntKind.i64 (-5), Value.int IntKind.i64 (-5)], Value.int IntKind.i64 ↑i, Value.bool true, Value.agg #[Value.int IntKind.i64 c0, Value.int IntKind.i64 c1], v48, v49, v50, v51, v52, v53, v54, u55, u56, u57, u58, u59, u60, u61, u62, u63, u64, u65, u66, u67, u68, u69, u70, u71, u72, u73, u74, u75, u76, u77, u78, u79, u80, u81, u82, u83, u84, u85, u86, u87, u88, u89, u90, u91, u92, u93, undef, undef, undef, undef, undef, undef, undef, undef, undef, undef, undef, undef, undef, undef, undef, undef, undef, undef, undef, undef, undef, undef, undef, undef, undef, undef, undef, undef, undef, undef, undef, undef, undef, undef, undef, undef, undef, undef, undef, undef, undef, undef, undef, undef, undef, undef, undef, undef, undef, undef, undef, undef, undef, undef, undef, undef, undef, undef, undef, undef, undef, undef, undef, undef, undef, undef, undef, undef, undef, undef, undef, undef, undef, undef, undef, undef, undef, undef, undef, undef, undef, undef, undef, undef, undef, undef, undef, undef, undef, undef, undef, undef, undef, undef, undef, undef, undef, undef, undef, undef, undef, undef, undef, undef, undef, undef, undef, undef, undef, undef, undef, undef, undef, undef, undef, undef, undef, undef, undef, undef, undef, undef, undef, undef, undef, undef, undef, undef, undef, undef, undef, undef, undef, undef, undef, undef, undef, undef, undef, undef, undef, undef, undef, undef, undef, undef, undef, undef, undef, undef, undef, undef, undef, undef, undef, undef, undef, undef, undef], []⟩ ∧ Keep W4 wx ∧ (bb 0 → v49 = .agg #[.int .i64 c0, .int .i64 c1]) ∧ (bb 1 → IntsAt wx v50 [5, 0]) ∧ (bb 2 → RowAt wx v51 ([(5, 0)])) ∧ (bb 3 → v52 = .tuple #[.bool false, .int .i64 130]) ∧ (bb 4 → v48 = .tuple #[.bool false, .int .i64 130]) ∧ (bb 5 → v53 = .bool false) ∧ (bb 6 → v54 = .int .i64 130) ∧ (bb 7 → v4 = .bool false) ∧ (bb 8 → v5 = .int .i64 130)) (by kernel_rfl) (by kernel_rfl) ?donex ?startx ?stepsx
      case donex =>
        rintro bb aa wx hb ⟨v4, v5, v48, v49, v50, v51, v52, v53, v54, rfl, G, f0, f1, f2, f3, f4, f5, f6, f7, f8⟩
        replace hb : ∀ k, k < 9 → bb k := fun k hk => hb k hk
        have g0 := f0 (hb 0 (by decide))
        have g1 := f1 (hb 1 (by decide))
        have g2 := f2 (hb 2 (by decide))
        have g3 := f3 (hb 3 (by decide))
        have g4 := f4 (hb 4 (by decide))
        have g5 := f5 (hb 5 (by decide))
        have g6 := f6 (hb 6 (by decide))
        have g7 := f7 (hb 7 (by decide))
        have g8 := f8 (hb 8 (by decide))
        clear f0 f1 f2 f3 f4 f5 f6 f7 f8
        obtain rfl := g0
        obtain rfl := g3
        obtain rfl := g4
        obtain rfl := g5
        obtain rfl := g6
        obtain rfl := g7
        obtain rfl := g8
        have GA := Lib.hid G
        have k0 := G.some k0
        have k1 := G.some k1
        have gd0 := G.some gd0
        have gd1 := G.some gd1
        clear hb G
        go_upto_region 6 with fail
        refine region_inv (J := fun bb aa wy => ∃ v6 v7 v55 v56 v57 v58 v59 v60 v61 : Value, aa = ⟨#[u0, Value.pointer (some { block := BG, off := 0 }), undef, Value.pointer (some { block := BC, off := 0 }), Value.bool false, Value.int IntKind.i64 130, v6, v7, u8, u9, u10, u11, undef, undef, undef, undef, undef, undef, undef, undef, undef, undef, undef, undef, undef, undef, undef, undef, undef, undef, undef, undef, undef, undef, undef, undef, undef, Value.agg #[Value.int IntKind.i64 1, Value.int IntKind.i64 1], Value.agg #[Value.int IntKind.i64 0, Value.int IntKind.i64 0], Value.agg #[Value.int IntKind.i64 1, Value.int IntKind.i64 0], Value.agg #[Value.int IntKind.i64 0, Value.int IntKind.i64 1], Value.agg #[Value.int IntKind.i64 1048577, Value.int IntKind.i64 1], Value.agg #[Value.int IntKind.i64 1, Value.int IntKind.i64 2097153], Value.agg #[Value.int IntKind.i64 (-5), Value.int IntKind.i64 (-5)], Value.agg #[Value.int IntKind.i64 0, Value.int IntKind.i64 0, Value.int IntKind.i64 1, Value.int IntKind.i64 0, Value.int IntKind.i64 0, Value.int IntKind.i64 1, Value.int IntKind.i64 1048577, Value.int IntKind.i64 1, Value.int IntKind.i64 1, Value.int IntKind.i64 2097153, Value.int IntKind.i64 (-5), Value.int IntKind.i64 (-5)], Value.int IntKind.i64 ↑i, Value.bool true, Value.agg #[Value.int IntKind.i64 c0, Value.int IntKind.i64 c1], Value.tuple #[Value.bool false, Value.int IntKind.i64 130], Value.agg #[Value.int IntKind.i64 c0, Value.int IntKind.i64 c1], v50, v51, Value.tuple #[Value.bool false, Value.int IntKind.i64 130], Value.bool false, Value.int IntKind.i64 130, v55, v56, v57, v58, v59, v60, v61, u62, u63, u64, u65, u66, u67, u68, u69, u70, u71, u72, u73, u74, u75, u76, u77, u78, u79, u80, u81, u82, u83, u84, u85, u86, u87, u88, u89, u90, u91, u92, u93, undef, undef, undef, undef, undef, undef, undef, undef, undef, undef, undef, undef, undef, undef, undef, undef, undef, undef, undef, undef, undef, undef, undef, undef, undef, undef, undef, undef, undef, undef, undef, undef, undef, undef, undef, undef, undef, undef, undef, undef, undef, undef, undef, undef, undef, undef, undef, undef, undef, undef, undef, undef, undef, undef, undef, undef, undef, undef, undef, undef, undef, undef, undef, undef, undef, undef, undef, undef, undef, undef, undef, undef, undef, undef, undef, undef, undef, undef, undef, undef, undef, undef, undef, undef, undef, undef, undef, undef, undef, undef, undef, undef, undef, undef, undef, undef, undef, undef, undef, undef, undef, undef, undef, undef, undef, undef, undef, undef, undef, undef, undef, undef, undef, undef, undef, undef, undef, undef, undef, undef, undef, undef, undef, undef, undef, undef, undef, undef, undef, undef, undef, undef, undef, undef, undef, undef, undef, undef, undef, undef, undef, undef, undef, undef, undef, undef, undef, undef, undef, undef, undef, undef, undef, undef, undef, undef, undef, undef, undef], []⟩ ∧ Keep wx wy ∧ (bb 0 → v56 = .agg #[.int .i64 c0, .int .i64 c1]) ∧ (bb 1 → IntsAt wy v57 [5, 0]) ∧ (bb 2 → RowAt wy v58 ([(5, 0)])) ∧ (bb 3 → v59 = .tuple #[.int .i64 0, .int .i64 130]) ∧ (bb 4 → v55 = .tuple #[.int .i64 0, .int .i64 130]) ∧ (bb 5 → v60 = .int .i64 0) ∧ (bb 6 → v61 = .int .i64 130) ∧ (bb 7 → v6 = .int .i64 0) ∧ (bb 8 → v7 = .int .i64 130)) (by kernel_rfl) (by kernel_rfl) ?doney ?starty ?stepsy
        case doney =>
          rintro bb aa wy hb ⟨v6, v7, v55, v56, v57, v58, v59, v60, v61, rfl, G, f0, f1, f2, f3, f4, f5, f6, f7, f8⟩
          replace hb : ∀ k, k < 9 → bb k := fun k hk => hb k hk
          have g0 := f0 (hb 0 (by decide))
          have g1 := f1 (hb 1 (by decide))
          have g2 := f2 (hb 2 (by decide))
          have g3 := f3 (hb 3 (by decide))
          have g4 := f4 (hb 4 (by decide))
          have g5 := f5 (hb 5 (by decide))
          have g6 := f6 (hb 6 (by decide))
          have g7 := f7 (hb 7 (by decide))
          have g8 := f8 (hb 8 (by decide))
          clear f0 f1 f2 f3 f4 f5 f6 f7 f8
          obtain rfl := g0
          obtain rfl := g3
          obtain rfl := g4
          obtain rfl := g5
          obtain rfl := g6
          obtain rfl := g7
          obtain rfl := g8
          have HW := Lib.hid ((HW.out.trans GA.out).trans G)
          have k0 := G.some k0
          have k1 := G.some k1
          have gd0 := G.some gd0
          have gd1 := G.some gd1
          have hrow : ∀ w' : World, RowAt (w'.alloc (.cells #[.int .i64 1, .int .i64 1, .int .i64 c0, .int .i64 c1] 30)) (.slice (some ⟨w'.heap.size, 0, none⟩) 2 2) [(1, 1), (c0, c1)] := fun w' => rowNew w' [(1, 1), (c0, c1)] _ (by simp)
          clear hb GA
          go_wp2_with (first | (go_at_call 23; ((with_reducible refine (within_is c0 c1 (-1) 0 130 _ HC3).mono ?_); rintro _ w1 ⟨rfl, hk⟩; have k0 := hk.some (by first | exact k0 | exact cell_alloc_old _ k0 | exact cell_alloc_old _ (cell_alloc_old _ k0)); have k1 := hk.some (by first | exact k1 | exact cell_alloc_old _ k1 | exact cell_alloc_old _ (cell_alloc_old _ k1)); have gd0 := hk.some (by first | exact gd0 | exact cell_alloc_old _ gd0 | exact cell_alloc_old _ (cell_alloc_old _ gd0)); have gd1 := hk.some (by first | exact gd1 | exact cell_alloc_old _ gd1 | exact cell_alloc_old _ (cell_alloc_old _ gd1)); have hbk := cellBlock k0; have hbg := cellBlock gd0; have HW := Lib.hid (by first | exact HW.out.trans hk | exact (HW.out.alloc _).trans hk | exact ((HW.out.alloc _).alloc _).trans hk))) | (go_at_call 18; ((with_reducible refine (sum_is _ [(1, 1), (c0, c1)] 0 0 130 _ (Lib.hid (hrow _)) HC4).mono ?_); rintro _ w1 ⟨rfl, hk⟩; have k0 := hk.some (by first | exact k0 | exact cell_alloc_old _ k0 | exact cell_alloc_old _ (cell_alloc_old _ k0)); have k1 := hk.some (by first | exact k1 | exact cell_alloc_old _ k1 | exact cell_alloc_old _ (cell_alloc_old _ k1)); have gd0 := hk.some (by first | exact gd0 | exact cell_alloc_old _ gd0 | exact cell_alloc_old _ (cell_alloc_old _ gd0)); have gd1 := hk.some (by first | exact gd1 | exact cell_alloc_old _ gd1 | exact cell_alloc_old _ (cell_alloc_old _ gd1)); have hbk := cellBlock k0; have hbg := cellBlock gd0; have HW := Lib.hid (by first | exact HW.out.trans hk | exact (HW.out.alloc _).trans hk | exact ((HW.out.alloc _).alloc _).trans hk))) | (go_at_call 24; ((with_reducible refine (check_is c0 c1 130 _ HC5).mono ?_); rintro _ w1 ⟨rfl, hk⟩; have k0 := hk.some (by first | exact k0 | exact cell_alloc_old _ k0 | exact cell_alloc_old _ (cell_alloc_old _ k0)); have k1 := hk.some (by first | exact k1 | exact cell_alloc_old _ k1 | exact cell_alloc_old _ (cell_alloc_old _ k1)); have gd0 := hk.some (by first | exact gd0 | exact cell_alloc_old _ gd0 | exact cell_alloc_old _ (cell_alloc_old _ gd0)); have gd1 := hk.some (by first | exact gd1 | exact cell_alloc_old _ gd1 | exact cell_alloc_old _ (cell_alloc_old _ gd1)); have hbk := cellBlock k0; have hbg := cellBlock gd0; have HW := Lib.hid (by first | exact HW.out.trans hk | exact (HW.out.alloc _).trans hk | exact ((HW.out.alloc _).alloc _).trans hk))))
          go_roundw
          case rel => exact ⟨i + 1, by omega, rfl, Lib.hid (by first | exact HW.out | exact HW.out.alloc _)⟩
          case measure => simp [intOf]; omega
        case starty => exact ⟨_, _, _, _, _, _, _, _, _, rfl, Keep.drew (Keep.refl _), fun h => h.elim, fun h => h.elim, fun h => h.elim, fun h => h.elim, fun h => h.elim, fun h => h.elim, fun h => h.elim, fun h => h.elim, fun h => h.elim⟩
        case stepsy =>
          refine StepsFrom.cons (k := 0) ?_ (StepsFrom.cons (k := 1) ?_ (StepsFrom.cons (k := 2) ?_ (StepsFrom.cons (k := 3) ?_ (StepsFrom.cons (k := 4) ?_ (StepsFrom.cons (k := 5) ?_ (StepsFrom.cons (k := 6) ?_ (StepsFrom.cons (k := 7) ?_ (StepsFrom.cons (k := 8) ?_ (StepsFrom.nil)))))))))
          · -- 0: val
            rintro bb aa wy hn hd ⟨v6, v7, v55, v56, v57, v58, v59, v60, v61, rfl, G, f0, f1, f2, f3, f4, f5, f6, f7, f8⟩ K hK
            have k0 := G.some k0
            have k1 := G.some k1
            have HK := Lib.hid hK
            clear hK
            go_simp
            exact HK.out _ _ ⟨_, _, _, _, _, _, _, _, _, rfl, G, fun _ => rfl, fun h => IntsAt.keep (f1 (down (by decide) h)) (Keep.refl _), fun h => (f2 (down (by decide) h)).keep (Keep.refl _), up (by decide) f3, up (by decide) f4, up (by decide) f5, up (by decide) f6, up (by decide) f7, up (by decide) f8⟩
          · -- 1: fact
            rintro bb aa wy hn hd ⟨v6, v7, v55, v56, v57, v58, v59, v60, v61, rfl, G, f0, f1, f2, f3, f4, f5, f6, f7, f8⟩ K hK
            have HK := Lib.hid hK
            clear hK
            go_simp
            exact HK.out _ _ ⟨_, _, _, _, _, _, _, _, _, rfl, (G.trans (Keep.alloc (Keep.refl _) _)), up (by decide) f0, fun _ => intsNew _ [5, 0] _ (by decide), fun h => (f2 (down (by decide) h)).keep (Keep.alloc (Keep.refl _) _), up (by decide) f3, up (by decide) f4, up (by decide) f5, up (by decide) f6, up (by decide) f7, up (by decide) f8⟩
          · -- 2: row
            rintro bb aa wy hn hd ⟨v6, v7, v55, v56, v57, v58, v59, v60, v61, rfl, G, f0, f1, f2, f3, f4, f5, f6, f7, f8⟩ K hK
            have b1 : bb 1 := hd ⟨1, .data⟩ (by simp) (by rfl)
            have HK := Lib.hid hK
            clear hK
            go_wp2_with (go_at_call 21; ((with_reducible refine (trace_is _ [5, 0] [(5, 0)] _ (Lib.hid (f1 b1)) (Lib.hid (by decide))).mono ?_); rintro _ w1 ⟨v1, rfl, hr, hk, hf⟩))
            exact HK.out _ _ ⟨_, _, _, _, _, _, _, _, _, rfl, (G.trans hk), up (by decide) f0, fun h => IntsAt.keep (f1 (down (by decide) h)) hk, fun _ => hr, up (by decide) f3, up (by decide) f4, up (by decide) f5, up (by decide) f6, up (by decide) f7, up (by decide) f8⟩
          · -- 3: val
            rintro bb aa wy hn hd ⟨v6, v7, v55, v56, v57, v58, v59, v60, v61, rfl, G, f0, f1, f2, f3, f4, f5, f6, f7, f8⟩ K hK
            have b0 : bb 0 := hd ⟨0, .data⟩ (by simp) (by rfl)
            obtain rfl := f0 b0
            have b2 : bb 2 := hd ⟨2, .data⟩ (by simp) (by rfl)
            have HK := Lib.hid hK
            clear hK
            go_wp2_with (go_at_call 22; ((with_reducible refine (first_is c0 c1 _ [(5, 0)] 0 130 _ (Lib.hid (f2 b2)) HC2).mono ?_); rintro _ w1 ⟨rfl, hk⟩))
            exact HK.out _ _ ⟨_, _, _, _, _, _, _, _, _, rfl, (G.trans hk), fun _ => rfl, fun h => IntsAt.keep (f1 (down (by decide) h)) hk, fun h => (f2 (down (by decide) h)).keep hk, fun _ => rfl, up (by decide) f4, up (by decide) f5, up (by decide) f6, up (by decide) f7, up (by decide) f8⟩
          · -- 4: val
            rintro bb aa wy hn hd ⟨v6, v7, v55, v56, v57, v58, v59, v60, v61, rfl, G, f0, f1, f2, f3, f4, f5, f6, f7, f8⟩ K hK
            have b3 : bb 3 := hd ⟨3, .data⟩ (by simp) (by rfl)
            obtain rfl := f3 b3
            have HK := Lib.hid hK
            clear hK
            go_simp
            exact HK.out _ _ ⟨_, _, _, _, _, _, _, _, _, rfl, G, up (by decide) f0, fun h => IntsAt.keep (f1 (down (by decide) h)) (Keep.refl _), fun h => (f2 (down (by decide) h)).keep (Keep.refl _), fun _ => rfl, fun _ => rfl, up (by decide) f5, up (by decide) f6, up (by decide) f7, up (by decide) f8⟩
          · -- 5: val
            rintro bb aa wy hn hd ⟨v6, v7, v55, v56, v57, v58, v59, v60, v61, rfl, G, f0, f1, f2, f3, f4, f5, f6, f7, f8⟩ K hK
            have b4 : bb 4 := hd ⟨4, .data⟩ (by simp) (by rfl)
            obtain rfl := f4 b4
            have HK := Lib.hid hK
            clear hK
            go_simp
            exact HK.out _ _ ⟨_, _, _, _, _, _, _, _, _, rfl, G, up (by decide) f0, fun h => IntsAt.keep (f1 (down (by decide) h)) (Keep.refl _), fun h => (f2 (down (by decide) h)).keep (Keep.refl _), up (by decide) f3, fun _ => rfl, fun _ => rfl, up (by decide) f6, up (by decide) f7, up (by decide) f8⟩
          · -- 6: val
            rintro bb aa wy hn hd ⟨v6, v7, v55, v56, v57, v58, v59, v60, v61, rfl, G, f0, f1, f2, f3, f4, f5, f6, f7, f8⟩ K hK
            have b4 : bb 4 := hd ⟨4, .data⟩ (by simp) (by rfl)
            obtain rfl := f4 b4
            have HK := Lib.hid hK
            clear hK
            go_simp
            exact HK.out _ _ ⟨_, _, _, _, _, _, _, _, _, rfl, G, up (by decide) f0, fun h => IntsAt.keep (f1 (down (by decide) h)) (Keep.refl _), fun h => (f2 (down (by decide) h)).keep (Keep.refl _), up (by decide) f3, fun _ => rfl, up (by decide) f5, fun _ => rfl, up (by decide) f7, up (by decide) f8⟩
          · -- 7: val
            rintro bb aa wy hn hd ⟨v6, v7, v55, v56, v57, v58, v59, v60, v61, rfl, G, f0, f1, f2, f3, f4, f5, f6, f7, f8⟩ K hK
            have b5 : bb 5 := hd ⟨5, .data⟩ (by simp) (by rfl)
            obtain rfl := f5 b5
            have HK := Lib.hid hK
            clear hK
            go_simp
            exact HK.out _ _ ⟨_, _, _, _, _, _, _, _, _, rfl, G, up (by decide) f0, fun h => IntsAt.keep (f1 (down (by decide) h)) (Keep.refl _), fun h => (f2 (down (by decide) h)).keep (Keep.refl _), up (by decide) f3, up (by decide) f4, fun _ => rfl, up (by decide) f6, fun _ => rfl, up (by decide) f8⟩
          · -- 8: val
            rintro bb aa wy hn hd ⟨v6, v7, v55, v56, v57, v58, v59, v60, v61, rfl, G, f0, f1, f2, f3, f4, f5, f6, f7, f8⟩ K hK
            have b6 : bb 6 := hd ⟨6, .data⟩ (by simp) (by rfl)
            obtain rfl := f6 b6
            have HK := Lib.hid hK
            clear hK
            go_simp
            exact HK.out _ _ ⟨_, _, _, _, _, _, _, _, _, rfl, G, up (by decide) f0, fun h => IntsAt.keep (f1 (down (by decide) h)) (Keep.refl _), fun h => (f2 (down (by decide) h)).keep (Keep.refl _), up (by decide) f3, up (by decide) f4, up (by decide) f5, fun _ => rfl, up (by decide) f7, fun _ => rfl⟩
      case startx => exact ⟨_, _, _, _, _, _, _, _, _, rfl, Keep.drew (Keep.refl _), fun h => h.elim, fun h => h.elim, fun h => h.elim, fun h => h.elim, fun h => h.elim, fun h => h.elim, fun h => h.elim, fun h => h.elim, fun h => h.elim⟩
      case stepsx =>
        refine StepsFrom.cons (k := 0) ?_ (StepsFrom.cons (k := 1) ?_ (StepsFrom.cons (k := 2) ?_ (StepsFrom.cons (k := 3) ?_ (StepsFrom.cons (k := 4) ?_ (StepsFrom.cons (k := 5) ?_ (StepsFrom.cons (k := 6) ?_ (StepsFrom.cons (k := 7) ?_ (StepsFrom.cons (k := 8) ?_ (StepsFrom.nil)))))))))
        · -- 0: val
          rintro bb aa wx hn hd ⟨v4, v5, v48, v49, v50, v51, v52, v53, v54, rfl, G, f0, f1, f2, f3, f4, f5, f6, f7, f8⟩ K hK
          have k0 := G.some k0
          have k1 := G.some k1
          have HK := Lib.hid hK
          clear hK
          go_simp
          exact HK.out _ _ ⟨_, _, _, _, _, _, _, _, _, rfl, G, fun _ => rfl, fun h => IntsAt.keep (f1 (down (by decide) h)) (Keep.refl _), fun h => (f2 (down (by decide) h)).keep (Keep.refl _), up (by decide) f3, up (by decide) f4, up (by decide) f5, up (by decide) f6, up (by decide) f7, up (by decide) f8⟩
        · -- 1: fact
          rintro bb aa wx hn hd ⟨v4, v5, v48, v49, v50, v51, v52, v53, v54, rfl, G, f0, f1, f2, f3, f4, f5, f6, f7, f8⟩ K hK
          have HK := Lib.hid hK
          clear hK
          go_simp
          exact HK.out _ _ ⟨_, _, _, _, _, _, _, _, _, rfl, (G.trans (Keep.alloc (Keep.refl _) _)), up (by decide) f0, fun _ => intsNew _ [5, 0] _ (by decide), fun h => (f2 (down (by decide) h)).keep (Keep.alloc (Keep.refl _) _), up (by decide) f3, up (by decide) f4, up (by decide) f5, up (by decide) f6, up (by decide) f7, up (by decide) f8⟩
        · -- 2: row
          rintro bb aa wx hn hd ⟨v4, v5, v48, v49, v50, v51, v52, v53, v54, rfl, G, f0, f1, f2, f3, f4, f5, f6, f7, f8⟩ K hK
          have b1 : bb 1 := hd ⟨1, .data⟩ (by simp) (by rfl)
          have HK := Lib.hid hK
          clear hK
          go_wp2_with (go_at_call 21; ((with_reducible refine (trace_is _ [5, 0] [(5, 0)] _ (Lib.hid (f1 b1)) (Lib.hid (by decide))).mono ?_); rintro _ w1 ⟨v1, rfl, hr, hk, hf⟩))
          exact HK.out _ _ ⟨_, _, _, _, _, _, _, _, _, rfl, (G.trans hk), up (by decide) f0, fun h => IntsAt.keep (f1 (down (by decide) h)) hk, fun _ => hr, up (by decide) f3, up (by decide) f4, up (by decide) f5, up (by decide) f6, up (by decide) f7, up (by decide) f8⟩
        · -- 3: val
          rintro bb aa wx hn hd ⟨v4, v5, v48, v49, v50, v51, v52, v53, v54, rfl, G, f0, f1, f2, f3, f4, f5, f6, f7, f8⟩ K hK
          have b0 : bb 0 := hd ⟨0, .data⟩ (by simp) (by rfl)
          obtain rfl := f0 b0
          have b2 : bb 2 := hd ⟨2, .data⟩ (by simp) (by rfl)
          have HK := Lib.hid hK
          clear hK
          go_wp2_with (go_at_call 20; ((with_reducible refine (conforms_is c0 c1 _ [(5, 0)] false 130 _ (Lib.hid (f2 b2)) HC1).mono ?_); rintro _ w1 ⟨rfl, hk⟩))
          exact HK.out _ _ ⟨_, _, _, _, _, _, _, _, _, rfl, (G.trans hk), fun _ => rfl, fun h => IntsAt.keep (f1 (down (by decide) h)) hk, fun h => (f2 (down (by decide) h)).keep hk, fun _ => rfl, up (by decide) f4, up (by decide) f5, up (by decide) f6, up (by decide) f7, up (by decide) f8⟩
        · -- 4: val
          rintro bb aa wx hn hd ⟨v4, v5, v48, v49, v50, v51, v52, v53, v54, rfl, G, f0, f1, f2, f3, f4, f5, f6, f7, f8⟩ K hK
          have b3 : bb 3 := hd ⟨3, .data⟩ (by simp) (by rfl)
          obtain rfl := f3 b3
          have HK := Lib.hid hK
          clear hK
          go_simp
          exact HK.out _ _ ⟨_, _, _, _, _, _, _, _, _, rfl, G, up (by decide) f0, fun h => IntsAt.keep (f1 (down (by decide) h)) (Keep.refl _), fun h => (f2 (down (by decide) h)).keep (Keep.refl _), fun _ => rfl, fun _ => rfl, up (by decide) f5, up (by decide) f6, up (by decide) f7, up (by decide) f8⟩
        · -- 5: val
          rintro bb aa wx hn hd ⟨v4, v5, v48, v49, v50, v51, v52, v53, v54, rfl, G, f0, f1, f2, f3, f4, f5, f6, f7, f8⟩ K hK
          have b4 : bb 4 := hd ⟨4, .data⟩ (by simp) (by rfl)
          obtain rfl := f4 b4
          have HK := Lib.hid hK
          clear hK
          go_simp
          exact HK.out _ _ ⟨_, _, _, _, _, _, _, _, _, rfl, G, up (by decide) f0, fun h => IntsAt.keep (f1 (down (by decide) h)) (Keep.refl _), fun h => (f2 (down (by decide) h)).keep (Keep.refl _), up (by decide) f3, fun _ => rfl, fun _ => rfl, up (by decide) f6, up (by decide) f7, up (by decide) f8⟩
        · -- 6: val
          rintro bb aa wx hn hd ⟨v4, v5, v48, v49, v50, v51, v52, v53, v54, rfl, G, f0, f1, f2, f3, f4, f5, f6, f7, f8⟩ K hK
          have b4 : bb 4 := hd ⟨4, .data⟩ (by simp) (by rfl)
          obtain rfl := f4 b4
          have HK := Lib.hid hK
          clear hK
          go_simp
          exact HK.out _ _ ⟨_, _, _, _, _, _, _, _, _, rfl, G, up (by decide) f0, fun h => IntsAt.keep (f1 (down (by decide) h)) (Keep.refl _), fun h => (f2 (down (by decide) h)).keep (Keep.refl _), up (by decide) f3, fun _ => rfl, up (by decide) f5, fun _ => rfl, up (by decide) f7, up (by decide) f8⟩
        · -- 7: val
          rintro bb aa wx hn hd ⟨v4, v5, v48, v49, v50, v51, v52, v53, v54, rfl, G, f0, f1, f2, f3, f4, f5, f6, f7, f8⟩ K hK
          have b5 : bb 5 := hd ⟨5, .data⟩ (by simp) (by rfl)
          obtain rfl := f5 b5
          have HK := Lib.hid hK
          clear hK
          go_simp
          exact HK.out _ _ ⟨_, _, _, _, _, _, _, _, _, rfl, G, up (by decide) f0, fun h => IntsAt.keep (f1 (down (by decide) h)) (Keep.refl _), fun h => (f2 (down (by decide) h)).keep (Keep.refl _), up (by decide) f3, up (by decide) f4, fun _ => rfl, up (by decide) f6, fun _ => rfl, up (by decide) f8⟩
        · -- 8: val
          rintro bb aa wx hn hd ⟨v4, v5, v48, v49, v50, v51, v52, v53, v54, rfl, G, f0, f1, f2, f3, f4, f5, f6, f7, f8⟩ K hK
          have b6 : bb 6 := hd ⟨6, .data⟩ (by simp) (by rfl)
          obtain rfl := f6 b6
          have HK := Lib.hid hK
          clear hK
          go_simp
          exact HK.out _ _ ⟨_, _, _, _, _, _, _, _, _, rfl, G, up (by decide) f0, fun h => IntsAt.keep (f1 (down (by decide) h)) (Keep.refl _), fun h => (f2 (down (by decide) h)).keep (Keep.refl _), up (by decide) f3, up (by decide) f4, up (by decide) f5, fun _ => rfl, up (by decide) f7, fun _ => rfl⟩
    · obtain rfl : i = 6 := by omega
      have gd0 := HR.out.some gd0
      have gd1 := HR.out.some gd1
      have KK := Lib.hid (KK.out.trans HR.out)
      clear HIB
      go_upto_region 12 with fail
      refine region_inv (J := fun bb aa wp => ∃ v94 v95 v96 v97 v98 v99 v100 v101 v102 v103 v104 v105 v106 : Value, aa = ⟨#[u0, Value.pointer (some { block := BG, off := 0 }), undef, u3, u4, u5, u6, u7, u8, u9, u10, u11, undef, undef, undef, undef, undef, undef, undef, undef, undef, undef, undef, undef, undef, undef, undef, undef, undef, undef, undef, undef, undef, undef, undef, undef, undef, Value.agg #[Value.int IntKind.i64 1, Value.int IntKind.i64 1], Value.agg #[Value.int IntKind.i64 0, Value.int IntKind.i64 0], Value.agg #[Value.int IntKind.i64 1, Value.int IntKind.i64 0], Value.agg #[Value.int IntKind.i64 0, Value.int IntKind.i64 1], Value.agg #[Value.int IntKind.i64 1048577, Value.int IntKind.i64 1], Value.agg #[Value.int IntKind.i64 1, Value.int IntKind.i64 2097153], Value.agg #[Value.int IntKind.i64 (-5), Value.int IntKind.i64 (-5)], Value.agg #[Value.int IntKind.i64 0, Value.int IntKind.i64 0, Value.int IntKind.i64 1, Value.int IntKind.i64 0, Value.int IntKind.i64 0, Value.int IntKind.i64 1, Value.int IntKind.i64 1048577, Value.int IntKind.i64 1, Value.int IntKind.i64 1, Value.int IntKind.i64 2097153, Value.int IntKind.i64 (-5), Value.int IntKind.i64 (-5)], Value.int IntKind.i64 ↑6, Value.bool false, u47, u48, u49, u50, u51, u52, u53, u54, u55, u56, u57, u58, u59, u60, u61, u62, u63, u64, u65, u66, u67, u68, u69, u70, u71, u72, u73, u74, u75, u76, u77, u78, u79, u80, u81, u82, u83, u84, u85, u86, u87, u88, u89, u90, u91, u92, u93, v94, v95, v96, v97, v98, v99, v100, v101, v102, v103, v104, v105, v106, undef, undef, undef, undef, undef, undef, undef, undef, undef, undef, undef, undef, undef, undef, undef, undef, undef, undef, undef, undef, undef, undef, undef, undef, undef, undef, undef, undef, undef, undef, undef, undef, undef, undef, undef, undef, undef, undef, undef, undef, undef, undef, undef, undef, undef, undef, undef, undef, undef, undef, undef, undef, undef, undef, undef, undef, undef, undef, undef, undef, undef, undef, undef, undef, undef, undef, undef, undef, undef, undef, undef, undef, undef, undef, undef, undef, undef, undef, undef, undef, undef, undef, undef, undef, undef, undef, undef, undef, undef, undef, undef, undef, undef, undef, undef, undef, undef, undef, undef, undef, undef, undef, undef, undef, undef, undef, undef, undef, undef, undef, undef, undef, undef, undef, undef, undef, undef, undef, undef, undef, undef, undef, undef, undef, undef, undef, undef, undef, undef, undef, undef, undef, undef, undef, undef, undef, undef, undef, undef, undef, undef, undef, undef, undef, undef, undef], []⟩ ∧ Keep wr wp ∧ (bb 0 → IntsAt wp v94 [5, 0]) ∧ (bb 1 → RowAt wp v95 ([(5, 0)])) ∧ (bb 2 → IntsAt wp v96 [(-1), 1]) ∧ (bb 3 → RowAt wp v97 ([(-1, 1)])) ∧ (bb 4 → IntsAt wp v98 [5, 1, 4, 1]) ∧ (bb 5 → RowAt wp v99 ([(5, 1), (4, 1)])) ∧ (bb 6 → IntsAt wp v100 [1099511627777, 1]) ∧ (bb 7 → RowAt wp v101 ([(1099511627777, 1)])) ∧ (bb 8 → IntsAt wp v102 [0, 1048577]) ∧ (bb 9 → RowAt wp v103 ([(0, 1048577)])) ∧ (bb 10 → RowAt wp v104 (List.replicate 201 (0, 0))) ∧ (bb 11 → bb 1 ∧ bb 3 ∧ bb 5 ∧ bb 7 ∧ bb 9 ∧ bb 10 ∧ v105 = .agg #[v95, v97, v99, v101, v103, v104]) ∧ (bb 12 → v106 = .int .i64 0)) (by kernel_rfl) (by kernel_rfl) ?donep ?startp ?stepsp
      case donep =>
        rintro bb aa wp hb ⟨v94, v95, v96, v97, v98, v99, v100, v101, v102, v103, v104, v105, v106, rfl, G, f0, f1, f2, f3, f4, f5, f6, f7, f8, f9, f10, f11, f12⟩
        replace hb : ∀ k, k < 13 → bb k := fun k hk => hb k hk
        have g0 := f0 (hb 0 (by decide))
        have g1 := f1 (hb 1 (by decide))
        have g2 := f2 (hb 2 (by decide))
        have g3 := f3 (hb 3 (by decide))
        have g4 := f4 (hb 4 (by decide))
        have g5 := f5 (hb 5 (by decide))
        have g6 := f6 (hb 6 (by decide))
        have g7 := f7 (hb 7 (by decide))
        have g8 := f8 (hb 8 (by decide))
        have g9 := f9 (hb 9 (by decide))
        have g10 := f10 (hb 10 (by decide))
        have g11 := f11 (hb 11 (by decide))
        have g12 := f12 (hb 12 (by decide))
        clear f0 f1 f2 f3 f4 f5 f6 f7 f8 f9 f10 f11 f12
        obtain ⟨-, -, -, -, -, -, rfl⟩ := g11
        obtain rfl := g12
        have KK := Lib.hid (KK.out.trans G)
        have gd0 := G.some gd0
        have gd1 := G.some gd1
        obtain ⟨rq1, sq1, rfl, -⟩ := g1.form
        obtain ⟨rq3, sq3, rfl, -⟩ := g3.form
        obtain ⟨rq5, sq5, rfl, -⟩ := g5.form
        obtain ⟨rq7, sq7, rfl, -⟩ := g7.form
        obtain ⟨rq9, sq9, rfl, -⟩ := g9.form
        obtain ⟨rq10, sq10, rfl, -⟩ := g10.form
        rw [show (List.replicate 201 ((0 : Int), (0 : Int))).length = 201 from List.length_replicate] at g10
        have HIX : Hid (∀ j : Nat, j < 6 → ∃ aa nn cc ll, (∀ w', (Instr.index 50 (.agg #[.slice rq1 1 sq1, .slice rq3 1 sq3, .slice rq5 2 sq5, .slice rq7 1 sq7, .slice rq9 1 sq9, .slice rq10 201 sq10]) (.int .i64 (j : Int))).run Try.prog w' = .ok (.slice aa nn cc) w') ∧ RowAt wp (.slice aa nn cc) ll ∧ okT ll = false) := Lib.hid fun j hj => by
          obtain rfl | rfl | rfl | rfl | rfl | rfl : j = 0 ∨ j = 1 ∨ j = 2 ∨ j = 3 ∨ j = 4 ∨ j = 5 := by omega
          · exact ⟨rq1, _, sq1, _, fun w' => by kernel_rfl, g1, by decide⟩
          · exact ⟨rq3, _, sq3, _, fun w' => by kernel_rfl, g3, by decide⟩
          · exact ⟨rq5, _, sq5, _, fun w' => by kernel_rfl, g5, by decide⟩
          · exact ⟨rq7, _, sq7, _, fun w' => by kernel_rfl, g7, by decide⟩
          · exact ⟨rq9, _, sq9, _, fun w' => by kernel_rfl, g9, by decide⟩
          · exact ⟨rq10, _, sq10, _, fun w' => by kernel_rfl, g10, by unfold okT; simp⟩
        clear hb g0 g1 g2 g3 g4 g5 g6 g7 g8 g9 g10 G
        go_wp2
        go_loopw [106] (fun s106 wq => ∃ j : Nat, j ≤ 6 ∧ s106 = .int .i64 (j : Int) ∧ Hid (Keep wp wq)) (fun j _ => 6 - (intOf j).toNat)
        case atStart => exact ⟨0, by omega, rfl, Lib.hid (Keep.refl _)⟩
        case round =>
          obtain ⟨j, hj, rfl, HQ⟩ := hrel
          have gd0 := HQ.out.some gd0
          have gd1 := HQ.out.some gd1
          have KK := Lib.hid (KK.out.trans HQ.out)
          by_cases hlj : j < 6
          · obtain ⟨aa, nn, cc, ll, hix, hrow, hbt⟩ := HIX.out j hlj
            have hlj' : (j : Int) < 6 := by omega
            have RW := Lib.hid (hrow.keep HQ.out)
            have HC1 := Lib.hid (badT_conforms hbt)
            have HC2 := Lib.hid (badT_least hbt)
            have HC3 := Lib.hid (badT_zero ll)
            have HC4 := Lib.hid (badT_check hbt)
            have HW := HQ
            clear hrow hbt
            go_wp2_with (first | (go_at_call 20; ((with_reducible refine (conforms_is 1 1 _ ll false 131 _ RW HC1).mono ?_); rintro _ w1 ⟨rfl, hk⟩; have gd0 := hk.some gd0; have gd1 := hk.some gd1; have RW := Lib.hid (RW.out.keep hk); have HW := Lib.hid (HW.out.trans hk))) | (go_at_call 25; ((with_reducible refine (least_is 1 _ ll 0 131 _ RW HC2).mono ?_); rintro _ w1 ⟨rfl, hk⟩; have gd0 := hk.some gd0; have gd1 := hk.some gd1; have RW := Lib.hid (RW.out.keep hk); have HW := Lib.hid (HW.out.trans hk))) | (go_at_call 25; ((with_reducible refine (least_is 0 _ ll 0 2 _ RW HC3).mono ?_); rintro _ w1 ⟨rfl, hk⟩; have gd0 := hk.some gd0; have gd1 := hk.some gd1; have RW := Lib.hid (RW.out.keep hk); have HW := Lib.hid (HW.out.trans hk))) | (go_at_call 26; ((with_reducible refine (checkTrace_is _ ll 131 _ RW HC4).mono ?_); rintro _ w1 ⟨rfl, hk⟩; have gd0 := hk.some gd0; have gd1 := hk.some gd1; have RW := Lib.hid (RW.out.keep hk); have HW := Lib.hid (HW.out.trans hk))))
            go_roundw
            case rel => first | exact ⟨j + 1, by omega, rfl, HW⟩ | ((repeat apply Exists.intro); exact ⟨⟨j + 1, by omega, rfl, HW⟩, rfl⟩)
            case measure => simp [intOf]; omega
          · obtain rfl : j = 6 := by omega
            have m0 : (wr.alloc (.cells #[.int .i64 1048576, .int .i64 2097152] 30)).cell? ⟨wr.heap.size, 0, none⟩ = some (.int .i64 1048576) := by simp [go_sem]
            have m1 : (wr.alloc (.cells #[.int .i64 1048576, .int .i64 2097152] 30)).cell? ⟨wr.heap.size, 1, none⟩ = some (.int .i64 2097152) := by simp [go_sem]
            have gd0 := cell_alloc_old (.cells #[.int .i64 1048576, .int .i64 2097152] 30) gd0
            have gd1 := cell_alloc_old (.cells #[.int .i64 1048576, .int .i64 2097152] 30) gd1
            have hbg := cellBlock gd0
            have KK := Lib.hid (KK.out.alloc (.cells #[.int .i64 1048576, .int .i64 2097152] 30))
            have hnil : ∀ w' : World, RowAt w' (.slice none 0 0) [] := fun w' => Or.inl ⟨rfl, rfl⟩
            have hb13 : ∀ (w' : World) (o : Obj), RowAt ((w'.alloc o).alloc (.cells (cellsL [((0 : Int), (0 : Int)), ((0 : Int), (0 : Int)), ((0 : Int), (0 : Int)), ((0 : Int), (0 : Int)), ((0 : Int), (0 : Int)), ((0 : Int), (0 : Int)), ((0 : Int), (0 : Int)), ((0 : Int), (0 : Int)), ((0 : Int), (0 : Int)), ((0 : Int), (0 : Int)), ((0 : Int), (0 : Int)), ((0 : Int), (0 : Int)), ((0 : Int), (0 : Int))]).toArray 30)) (.slice (some ⟨w'.heap.size + 1, 0, none⟩) 13 13) [((0 : Int), (0 : Int)), ((0 : Int), (0 : Int)), ((0 : Int), (0 : Int)), ((0 : Int), (0 : Int)), ((0 : Int), (0 : Int)), ((0 : Int), (0 : Int)), ((0 : Int), (0 : Int)), ((0 : Int), (0 : Int)), ((0 : Int), (0 : Int)), ((0 : Int), (0 : Int)), ((0 : Int), (0 : Int)), ((0 : Int), (0 : Int)), ((0 : Int), (0 : Int))] := fun w' o => by have := rowNew (w'.alloc o) [((0 : Int), (0 : Int)), ((0 : Int), (0 : Int)), ((0 : Int), (0 : Int)), ((0 : Int), (0 : Int)), ((0 : Int), (0 : Int)), ((0 : Int), (0 : Int)), ((0 : Int), (0 : Int)), ((0 : Int), (0 : Int)), ((0 : Int), (0 : Int)), ((0 : Int), (0 : Int)), ((0 : Int), (0 : Int)), ((0 : Int), (0 : Int)), ((0 : Int), (0 : Int))] 30 (by decide); rwa [World.size_alloc] at this
            have hb2 : ∀ (w' : World) (o : Obj), RowAt ((w'.alloc o).alloc (.cells #[.int .i64 1048576, .int .i64 2097152, .int .i64 1, .int .i64 1] 30)) (.slice (some ⟨w'.heap.size + 1, 0, none⟩) 2 2) [((1048576 : Int), (2097152 : Int)), (1, 1)] := fun w' o => by have := rowNew (w'.alloc o) [((1048576 : Int), (2097152 : Int)), (1, 1)] 30 (by decide); rwa [World.size_alloc] at this
            have hb1 : ∀ (w' : World) (o : Obj), RowAt ((w'.alloc o).alloc (.cells #[.int .i64 1048576, .int .i64 2097152] 30)) (.slice (some ⟨w'.heap.size + 1, 0, none⟩) 1 1) [((1048576 : Int), (2097152 : Int))] := fun w' o => by have := rowNew (w'.alloc o) [((1048576 : Int), (2097152 : Int))] 30 (by decide); rwa [World.size_alloc] at this
            have hi28 : ∀ (w' : World) (o : Obj), IntsAt ((w'.alloc o).alloc (.cells #[.int .i64 0, .int .i64 1048576, .int .i64 0, .int .i64 1] 3)) (.slice (some ⟨w'.heap.size + 1, 0, none⟩) 4 4) [0, 1048576, 0, 1] := fun w' o => by have := intsNew (w'.alloc o) [0, 1048576, 0, 1] 3 (by decide); rwa [World.size_alloc] at this
            have hi29 : ∀ (w' : World), IntsAt (w'.alloc (.cells #[.int .i64 0, .int .i64 5, .int .i64 1048576, .int .i64 5, .int .i64 1099511627776, .int .i64 9] 3)) (.slice (some ⟨w'.heap.size, 0, none⟩) 6 6) [0, 5, 1048576, 5, 1099511627776, 9] := fun w' => intsNew w' [0, 5, 1048576, 5, 1099511627776, 9] 3 (by decide)
            have hs0 : ∀ (w' : World) (o : Obj), ((w'.alloc (.cells #[.int .i64 1048576, .int .i64 2097152] 30)).alloc o).cell? ⟨w'.heap.size, 0, none⟩ = some (.int .i64 1048576) := fun w' o => by simp [go_sem]
            have hs1 : ∀ (w' : World) (o : Obj), ((w'.alloc (.cells #[.int .i64 1048576, .int .i64 2097152] 30)).alloc o).cell? ⟨w'.heap.size, 1, none⟩ = some (.int .i64 2097152) := fun w' o => by simp [go_sem]
            have F1 : Hid (withinR 1048576 2097152 1099511627776 = (2199024304128, 0)) := Lib.hid (by decide)
            have F2 : Hid (withinR 1048576 2097152 1099511627777 = (0, 2)) := Lib.hid (by decide)
            have F3 : Hid (sumR [] = ((0, 0), 2)) := Lib.hid (by decide)
            have F4 : Hid (sumR [((0 : Int), (0 : Int)), ((0 : Int), (0 : Int)), ((0 : Int), (0 : Int)), ((0 : Int), (0 : Int)), ((0 : Int), (0 : Int)), ((0 : Int), (0 : Int)), ((0 : Int), (0 : Int)), ((0 : Int), (0 : Int)), ((0 : Int), (0 : Int)), ((0 : Int), (0 : Int)), ((0 : Int), (0 : Int)), ((0 : Int), (0 : Int)), ((0 : Int), (0 : Int))] = ((0, 0), 3)) := Lib.hid (by decide)
            have F5 : Hid (sumR [((1048576 : Int), (2097152 : Int)), (1, 1)] = ((0, 0), 6)) := Lib.hid (by decide)
            have F6 : Hid (sumR [((1048576 : Int), (2097152 : Int))] = ((1048576, 2097152), 0)) := Lib.hid (by decide)
            have F7 : Hid (pairsL [0, 1048576, 0, 1] = [(0, 1048576), (0, 1)]) := Lib.hid (by decide)
            have F8 : Hid (leastR 1 [(0, 1048576), (0, 1)] = (0, 6)) := Lib.hid (by decide)
            have F9 : Hid (pairsL [0, 5, 1048576, 5, 1099511627776, 9] = [(0, 5), (1048576, 5), (1099511627776, 9)]) := Lib.hid (by decide)
            have F10 : Hid (leastR 1 [(0, 5), (1048576, 5), (1099511627776, 9)] = (9, 0)) := Lib.hid (by decide)
            go_upto_region 30 with (first | (go_at_call 23; ((with_reducible refine (within_is 1048576 2097152 1099511627776 2199024304128 0 _ F1).mono ?_); rintro _ wa0 ⟨rfl, hk⟩; have m0 := hk.some (by first | exact m0 | exact cell_alloc_old _ m0 | exact cell_alloc_old _ (cell_alloc_old _ m0)); have m1 := hk.some (by first | exact m1 | exact cell_alloc_old _ m1 | exact cell_alloc_old _ (cell_alloc_old _ m1)); have gd0 := hk.some (by first | exact gd0 | exact cell_alloc_old _ gd0 | exact cell_alloc_old _ (cell_alloc_old _ gd0)); have gd1 := hk.some (by first | exact gd1 | exact cell_alloc_old _ gd1 | exact cell_alloc_old _ (cell_alloc_old _ gd1)); have hbg := cellBlock gd0; have hbm := cellBlock m0; have KK := Lib.hid (by first | exact KK.out.trans hk | exact (KK.out.alloc _).trans hk | exact ((KK.out.alloc _).alloc _).trans hk | exact (((KK.out.alloc _).alloc _).alloc _).trans hk))) | (go_at_call 23; ((with_reducible refine (within_is 1048576 2097152 1099511627777 0 2 _ F2).mono ?_); rintro _ wa1 ⟨rfl, hk⟩; have m0 := hk.some (by first | exact m0 | exact cell_alloc_old _ m0 | exact cell_alloc_old _ (cell_alloc_old _ m0)); have m1 := hk.some (by first | exact m1 | exact cell_alloc_old _ m1 | exact cell_alloc_old _ (cell_alloc_old _ m1)); have gd0 := hk.some (by first | exact gd0 | exact cell_alloc_old _ gd0 | exact cell_alloc_old _ (cell_alloc_old _ gd0)); have gd1 := hk.some (by first | exact gd1 | exact cell_alloc_old _ gd1 | exact cell_alloc_old _ (cell_alloc_old _ gd1)); have hbg := cellBlock gd0; have hbm := cellBlock m0; have KK := Lib.hid (by first | exact KK.out.trans hk | exact (KK.out.alloc _).trans hk | exact ((KK.out.alloc _).alloc _).trans hk | exact (((KK.out.alloc _).alloc _).alloc _).trans hk))) | (go_at_call 18; ((with_reducible refine (sum_is _ [] 0 0 2 _ (Lib.hid (hnil _)) F3).mono ?_); rintro _ wa2 ⟨rfl, hk⟩; have m0 := hk.some (by first | exact m0 | exact cell_alloc_old _ m0 | exact cell_alloc_old _ (cell_alloc_old _ m0)); have m1 := hk.some (by first | exact m1 | exact cell_alloc_old _ m1 | exact cell_alloc_old _ (cell_alloc_old _ m1)); have gd0 := hk.some (by first | exact gd0 | exact cell_alloc_old _ gd0 | exact cell_alloc_old _ (cell_alloc_old _ gd0)); have gd1 := hk.some (by first | exact gd1 | exact cell_alloc_old _ gd1 | exact cell_alloc_old _ (cell_alloc_old _ gd1)); have hbg := cellBlock gd0; have hbm := cellBlock m0; have KK := Lib.hid (by first | exact KK.out.trans hk | exact (KK.out.alloc _).trans hk | exact ((KK.out.alloc _).alloc _).trans hk | exact (((KK.out.alloc _).alloc _).alloc _).trans hk))) | (go_at_call 18; ((with_reducible refine (sum_is _ [((0 : Int), (0 : Int)), ((0 : Int), (0 : Int)), ((0 : Int), (0 : Int)), ((0 : Int), (0 : Int)), ((0 : Int), (0 : Int)), ((0 : Int), (0 : Int)), ((0 : Int), (0 : Int)), ((0 : Int), (0 : Int)), ((0 : Int), (0 : Int)), ((0 : Int), (0 : Int)), ((0 : Int), (0 : Int)), ((0 : Int), (0 : Int)), ((0 : Int), (0 : Int))] 0 0 3 _ (Lib.hid (hb13 _ _)) F4).mono ?_); rintro _ wa3 ⟨rfl, hk⟩; have m0 := hk.some (by first | exact m0 | exact cell_alloc_old _ m0 | exact cell_alloc_old _ (cell_alloc_old _ m0)); have m1 := hk.some (by first | exact m1 | exact cell_alloc_old _ m1 | exact cell_alloc_old _ (cell_alloc_old _ m1)); have gd0 := hk.some (by first | exact gd0 | exact cell_alloc_old _ gd0 | exact cell_alloc_old _ (cell_alloc_old _ gd0)); have gd1 := hk.some (by first | exact gd1 | exact cell_alloc_old _ gd1 | exact cell_alloc_old _ (cell_alloc_old _ gd1)); have hbg := cellBlock gd0; have hbm := cellBlock m0; have KK := Lib.hid (by first | exact KK.out.trans hk | exact (KK.out.alloc _).trans hk | exact ((KK.out.alloc _).alloc _).trans hk | exact (((KK.out.alloc _).alloc _).alloc _).trans hk))) | (go_at_call 18; ((with_reducible refine (sum_is _ [((1048576 : Int), (2097152 : Int)), (1, 1)] 0 0 6 _ (Lib.hid (hb2 _ _)) F5).mono ?_); rintro _ wa4 ⟨rfl, hk⟩; have m0 := hk.some (by first | exact m0 | exact cell_alloc_old _ m0 | exact cell_alloc_old _ (cell_alloc_old _ m0)); have m1 := hk.some (by first | exact m1 | exact cell_alloc_old _ m1 | exact cell_alloc_old _ (cell_alloc_old _ m1)); have gd0 := hk.some (by first | exact gd0 | exact cell_alloc_old _ gd0 | exact cell_alloc_old _ (cell_alloc_old _ gd0)); have gd1 := hk.some (by first | exact gd1 | exact cell_alloc_old _ gd1 | exact cell_alloc_old _ (cell_alloc_old _ gd1)); have hbg := cellBlock gd0; have hbm := cellBlock m0; have KK := Lib.hid (by first | exact KK.out.trans hk | exact (KK.out.alloc _).trans hk | exact ((KK.out.alloc _).alloc _).trans hk | exact (((KK.out.alloc _).alloc _).alloc _).trans hk))) | (go_at_call 18; ((with_reducible refine (sum_is _ [((1048576 : Int), (2097152 : Int))] 1048576 2097152 0 _ (Lib.hid (hb1 _ _)) F6).mono ?_); rintro _ wa5 ⟨rfl, hk⟩; have m0 := hk.some (by first | exact m0 | exact cell_alloc_old _ m0 | exact cell_alloc_old _ (cell_alloc_old _ m0)); have m1 := hk.some (by first | exact m1 | exact cell_alloc_old _ m1 | exact cell_alloc_old _ (cell_alloc_old _ m1)); have gd0 := hk.some (by first | exact gd0 | exact cell_alloc_old _ gd0 | exact cell_alloc_old _ (cell_alloc_old _ gd0)); have gd1 := hk.some (by first | exact gd1 | exact cell_alloc_old _ gd1 | exact cell_alloc_old _ (cell_alloc_old _ gd1)); have hbg := cellBlock gd0; have hbm := cellBlock m0; have KK := Lib.hid (by first | exact KK.out.trans hk | exact (KK.out.alloc _).trans hk | exact ((KK.out.alloc _).alloc _).trans hk | exact (((KK.out.alloc _).alloc _).alloc _).trans hk))) | (go_at_call 21; ((with_reducible refine (trace_is _ [0, 1048576, 0, 1] [(0, 1048576), (0, 1)] _ (Lib.hid (hi28 _ _)) F7).mono ?_); rintro _ wa6 ⟨va6, rfl, hr, hk, hf⟩; have s0 := hk.some (hs0 _ _); have s1 := hk.some (hs1 _ _); have hbs := cellBlock s0; have m0 := hk.some (by first | exact m0 | exact cell_alloc_old _ m0 | exact cell_alloc_old _ (cell_alloc_old _ m0)); have m1 := hk.some (by first | exact m1 | exact cell_alloc_old _ m1 | exact cell_alloc_old _ (cell_alloc_old _ m1)); have gd0 := hk.some (by first | exact gd0 | exact cell_alloc_old _ gd0 | exact cell_alloc_old _ (cell_alloc_old _ gd0)); have gd1 := hk.some (by first | exact gd1 | exact cell_alloc_old _ gd1 | exact cell_alloc_old _ (cell_alloc_old _ gd1)); have hbg := cellBlock gd0; have hbm := cellBlock m0; have KK := Lib.hid (by first | exact KK.out.trans hk | exact (KK.out.alloc _).trans hk | exact ((KK.out.alloc _).alloc _).trans hk | exact (((KK.out.alloc _).alloc _).alloc _).trans hk))) | (go_at_call 25; ((with_reducible refine (least_is 1 _ [(0, 1048576), (0, 1)] 0 6 _ (Lib.hid hr) F8).mono ?_); rintro _ wa7 ⟨rfl, hk⟩; have m0 := hk.some (by first | exact m0 | exact cell_alloc_old _ m0 | exact cell_alloc_old _ (cell_alloc_old _ m0)); have m1 := hk.some (by first | exact m1 | exact cell_alloc_old _ m1 | exact cell_alloc_old _ (cell_alloc_old _ m1)); have gd0 := hk.some (by first | exact gd0 | exact cell_alloc_old _ gd0 | exact cell_alloc_old _ (cell_alloc_old _ gd0)); have gd1 := hk.some (by first | exact gd1 | exact cell_alloc_old _ gd1 | exact cell_alloc_old _ (cell_alloc_old _ gd1)); have hbg := cellBlock gd0; have hbm := cellBlock m0; have KK := Lib.hid (by first | exact KK.out.trans hk | exact (KK.out.alloc _).trans hk | exact ((KK.out.alloc _).alloc _).trans hk | exact (((KK.out.alloc _).alloc _).alloc _).trans hk); have s0 := hk.some s0; have s1 := hk.some s1; have hbs := cellBlock s0; skip)) | (go_at_call 21; ((with_reducible refine (trace_is _ [0, 5, 1048576, 5, 1099511627776, 9] [(0, 5), (1048576, 5), (1099511627776, 9)] _ (Lib.hid (hi29 _)) F9).mono ?_); rintro _ wa8 ⟨va8, rfl, hr, hk, hf⟩; have s0 := hk.some (cell_alloc_old _ s0); have s1 := hk.some (cell_alloc_old _ s1); have hbs := cellBlock s0; have m0 := hk.some (by first | exact m0 | exact cell_alloc_old _ m0 | exact cell_alloc_old _ (cell_alloc_old _ m0)); have m1 := hk.some (by first | exact m1 | exact cell_alloc_old _ m1 | exact cell_alloc_old _ (cell_alloc_old _ m1)); have gd0 := hk.some (by first | exact gd0 | exact cell_alloc_old _ gd0 | exact cell_alloc_old _ (cell_alloc_old _ gd0)); have gd1 := hk.some (by first | exact gd1 | exact cell_alloc_old _ gd1 | exact cell_alloc_old _ (cell_alloc_old _ gd1)); have hbg := cellBlock gd0; have hbm := cellBlock m0; have KK := Lib.hid (by first | exact KK.out.trans hk | exact (KK.out.alloc _).trans hk | exact ((KK.out.alloc _).alloc _).trans hk | exact (((KK.out.alloc _).alloc _).alloc _).trans hk))) | (go_at_call 25; ((with_reducible refine (least_is 1 _ [(0, 5), (1048576, 5), (1099511627776, 9)] 9 0 _ (Lib.hid hr) F10).mono ?_); rintro _ wa9 ⟨rfl, hk⟩; have m0 := hk.some (by first | exact m0 | exact cell_alloc_old _ m0 | exact cell_alloc_old _ (cell_alloc_old _ m0)); have m1 := hk.some (by first | exact m1 | exact cell_alloc_old _ m1 | exact cell_alloc_old _ (cell_alloc_old _ m1)); have gd0 := hk.some (by first | exact gd0 | exact cell_alloc_old _ gd0 | exact cell_alloc_old _ (cell_alloc_old _ gd0)); have gd1 := hk.some (by first | exact gd1 | exact cell_alloc_old _ gd1 | exact cell_alloc_old _ (cell_alloc_old _ gd1)); have hbg := cellBlock gd0; have hbm := cellBlock m0; have KK := Lib.hid (by first | exact KK.out.trans hk | exact (KK.out.alloc _).trans hk | exact ((KK.out.alloc _).alloc _).trans hk | exact (((KK.out.alloc _).alloc _).alloc _).trans hk); have s0 := hk.some s0; have s1 := hk.some s1; have hbs := cellBlock s0; skip)))
            clear hnil hb13 hb2 hb1 hi28 hi29 hs0 hs1 F1 F2 F3 F4 F5 F6 F7 F8 F9 F10
            refine region_lin (W0 := wa9) (listF ((fun (v : Value) (ww : World) => v = .bool true) :: (fun (v : Value) (ww : World) => v = .bool true) :: (fun (v : Value) (ww : World) => v = .bool true) :: (fun (v : Value) (ww : World) => v = .bool true) :: (fun (v : Value) (ww : World) => v = .int .i64 2199024304128) :: (fun (v : Value) (ww : World) => v = .bool true) :: (fun (v : Value) (ww : World) => v = .bool true) :: (fun (v : Value) (ww : World) => v = .bool true) :: (fun (v : Value) (ww : World) => v = .int .i64 0) :: (fun (v : Value) (ww : World) => v = .bool true) :: (fun (v : Value) (ww : World) => v = .bool true) :: (fun (v : Value) (ww : World) => v = .bool true) :: (fun (v : Value) (ww : World) => v = .int .i64 2) :: (fun (v : Value) (ww : World) => v = .bool true) :: (fun (v : Value) (ww : World) => v = .bool true) :: (fun (v : Value) (ww : World) => v = .bool true) :: (fun (v : Value) (ww : World) => v = .int .i64 2) :: (fun (v : Value) (ww : World) => v = .bool true) :: (fun (v : Value) (ww : World) => v = .bool true) :: (fun (v : Value) (ww : World) => v = .bool true) :: (fun (v : Value) (ww : World) => v = .int .i64 3) :: (fun (v : Value) (ww : World) => v = .bool true) :: (fun (v : Value) (ww : World) => v = .bool true) :: (fun (v : Value) (ww : World) => v = .bool true) :: (fun (v : Value) (ww : World) => v = .int .i64 6) :: (fun (v : Value) (ww : World) => v = .bool true) :: (fun (v : Value) (ww : World) => v = .bool true) :: (fun (v : Value) (ww : World) => v = .bool true) :: (fun (v : Value) (ww : World) => v = .agg #[.int .i64 1048576, .int .i64 2097152]) :: (fun (v : Value) (ww : World) => v = .agg #[.int .i64 1048576, .int .i64 2097152]) :: (fun (v : Value) (ww : World) => v = .bool true) :: (fun (v : Value) (ww : World) => v = .bool true) :: (fun (v : Value) (ww : World) => v = .bool true) :: (fun (v : Value) (ww : World) => v = .int .i64 0) :: (fun (v : Value) (ww : World) => v = .bool true) :: (fun (v : Value) (ww : World) => v = .bool true) :: (fun (v : Value) (ww : World) => v = .bool true) :: (fun (v : Value) (ww : World) => v = .int .i64 6) :: (fun (v : Value) (ww : World) => v = .bool true) :: (fun (v : Value) (ww : World) => v = .bool true) :: (fun (v : Value) (ww : World) => v = .bool true) :: (fun (v : Value) (ww : World) => v = .int .i64 9) :: (fun (v : Value) (ww : World) => v = .bool true) :: (fun (v : Value) (ww : World) => v = .bool true) :: (fun (v : Value) (ww : World) => v = .bool true) :: (fun (v : Value) (ww : World) => v = .int .i64 0) :: (fun (v : Value) (ww : World) => v = .bool true) :: (fun (v : Value) (ww : World) => v = .bool true) :: (fun (v : Value) (ww : World) => v = .bool true) :: (fun (v : Value) (ww : World) => v = .agg #[.int .i64 1048576, .int .i64 2097152]) :: (fun (v : Value) (ww : World) => IntsAt ww v [0, 1048576, 549755813888, 1048576]) :: (fun (v : Value) (ww : World) => RowAt ww v [(0, 1048576), (549755813888, 1048576)]) :: (fun (v : Value) (ww : World) => v = .bool true) :: (fun (v : Value) (ww : World) => v = .bool true) :: (fun (v : Value) (ww : World) => v = .bool true) :: (fun (v : Value) (ww : World) => v = .agg #[.int .i64 1, .int .i64 1]) :: (fun (v : Value) (ww : World) => IntsAt ww v [0, 1, 1048575, 1]) :: (fun (v : Value) (ww : World) => RowAt ww v [(0, 1), (1048575, 1)]) :: (fun (v : Value) (ww : World) => v = .bool false) :: (fun (v : Value) (ww : World) => v = .bool true) :: (fun (v : Value) (ww : World) => v = .bool true) :: (fun (v : Value) (ww : World) => v = .bool true) :: (fun (v : Value) (ww : World) => v = .agg #[.int .i64 1, .int .i64 1]) :: (fun (v : Value) (ww : World) => IntsAt ww v [0, 1, 1048576, 1]) :: (fun (v : Value) (ww : World) => RowAt ww v [(0, 1), (1048576, 1)]) :: (fun (v : Value) (ww : World) => v = .bool true) :: (fun (v : Value) (ww : World) => v = .bool true) :: (fun (v : Value) (ww : World) => v = .bool true) :: [])) (listF_stable _ ⟨fun _ _ _ _ h => h, fun _ _ _ _ h => h, fun _ _ _ _ h => h, fun _ _ _ _ h => h, fun _ _ _ _ h => h, fun _ _ _ _ h => h, fun _ _ _ _ h => h, fun _ _ _ _ h => h, fun _ _ _ _ h => h, fun _ _ _ _ h => h, fun _ _ _ _ h => h, fun _ _ _ _ h => h, fun _ _ _ _ h => h, fun _ _ _ _ h => h, fun _ _ _ _ h => h, fun _ _ _ _ h => h, fun _ _ _ _ h => h, fun _ _ _ _ h => h, fun _ _ _ _ h => h, fun _ _ _ _ h => h, fun _ _ _ _ h => h, fun _ _ _ _ h => h, fun _ _ _ _ h => h, fun _ _ _ _ h => h, fun _ _ _ _ h => h, fun _ _ _ _ h => h, fun _ _ _ _ h => h, fun _ _ _ _ h => h, fun _ _ _ _ h => h, fun _ _ _ _ h => h, fun _ _ _ _ h => h, fun _ _ _ _ h => h, fun _ _ _ _ h => h, fun _ _ _ _ h => h, fun _ _ _ _ h => h, fun _ _ _ _ h => h, fun _ _ _ _ h => h, fun _ _ _ _ h => h, fun _ _ _ _ h => h, fun _ _ _ _ h => h, fun _ _ _ _ h => h, fun _ _ _ _ h => h, fun _ _ _ _ h => h, fun _ _ _ _ h => h, fun _ _ _ _ h => h, fun _ _ _ _ h => h, fun _ _ _ _ h => h, fun _ _ _ _ h => h, fun _ _ _ _ h => h, fun _ _ _ _ h => h, fun _ _ _ hk h => h.keep hk, fun _ _ _ hk h => h.keep hk, fun _ _ _ _ h => h, fun _ _ _ _ h => h, fun _ _ _ _ h => h, fun _ _ _ _ h => h, fun _ _ _ hk h => h.keep hk, fun _ _ _ hk h => h.keep hk, fun _ _ _ _ h => h, fun _ _ _ _ h => h, fun _ _ _ _ h => h, fun _ _ _ _ h => h, fun _ _ _ _ h => h, fun _ _ _ hk h => h.keep hk, fun _ _ _ hk h => h.keep hk, fun _ _ _ _ h => h, fun _ _ _ _ h => h, fun _ _ _ _ h => h, trivial⟩) (by kernel_rfl) (by kernel_rfl) (by kernel_rfl) (by kernel_rfl) (Keep.refl _) ?done30 ?steps30
            case done30 =>
              intro T30 wz30 hJ
              obtain ⟨x0, t0, f0⟩ := hJ.fact 0 186 (by decide) (by kernel_rfl)
              obtain rfl : x0 = .bool true := f0
              obtain ⟨x1, t1, f1⟩ := hJ.fact 1 187 (by decide) (by kernel_rfl)
              obtain rfl : x1 = .bool true := f1
              obtain ⟨x2, t2, f2⟩ := hJ.fact 2 188 (by decide) (by kernel_rfl)
              obtain rfl : x2 = .bool true := f2
              obtain ⟨x3, t3, f3⟩ := hJ.fact 3 189 (by decide) (by kernel_rfl)
              obtain rfl : x3 = .bool true := f3
              obtain ⟨x4, t4, f4⟩ := hJ.fact 4 190 (by decide) (by kernel_rfl)
              obtain rfl : x4 = .int .i64 2199024304128 := f4
              obtain ⟨x5, t5, f5⟩ := hJ.fact 5 191 (by decide) (by kernel_rfl)
              obtain rfl : x5 = .bool true := f5
              obtain ⟨x6, t6, f6⟩ := hJ.fact 6 192 (by decide) (by kernel_rfl)
              obtain rfl : x6 = .bool true := f6
              obtain ⟨x7, t7, f7⟩ := hJ.fact 7 193 (by decide) (by kernel_rfl)
              obtain rfl : x7 = .bool true := f7
              obtain ⟨x8, t8, f8⟩ := hJ.fact 8 194 (by decide) (by kernel_rfl)
              obtain rfl : x8 = .int .i64 0 := f8
              obtain ⟨x9, t9, f9⟩ := hJ.fact 9 195 (by decide) (by kernel_rfl)
              obtain rfl : x9 = .bool true := f9
              obtain ⟨x10, t10, f10⟩ := hJ.fact 10 196 (by decide) (by kernel_rfl)
              obtain rfl : x10 = .bool true := f10
              obtain ⟨x11, t11, f11⟩ := hJ.fact 11 197 (by decide) (by kernel_rfl)
              obtain rfl : x11 = .bool true := f11
              obtain ⟨x12, t12, f12⟩ := hJ.fact 12 198 (by decide) (by kernel_rfl)
              obtain rfl : x12 = .int .i64 2 := f12
              obtain ⟨x13, t13, f13⟩ := hJ.fact 13 199 (by decide) (by kernel_rfl)
              obtain rfl : x13 = .bool true := f13
              obtain ⟨x14, t14, f14⟩ := hJ.fact 14 200 (by decide) (by kernel_rfl)
              obtain rfl : x14 = .bool true := f14
              obtain ⟨x15, t15, f15⟩ := hJ.fact 15 201 (by decide) (by kernel_rfl)
              obtain rfl : x15 = .bool true := f15
              obtain ⟨x16, t16, f16⟩ := hJ.fact 16 202 (by decide) (by kernel_rfl)
              obtain rfl : x16 = .int .i64 2 := f16
              obtain ⟨x17, t17, f17⟩ := hJ.fact 17 203 (by decide) (by kernel_rfl)
              obtain rfl : x17 = .bool true := f17
              obtain ⟨x18, t18, f18⟩ := hJ.fact 18 204 (by decide) (by kernel_rfl)
              obtain rfl : x18 = .bool true := f18
              obtain ⟨x19, t19, f19⟩ := hJ.fact 19 205 (by decide) (by kernel_rfl)
              obtain rfl : x19 = .bool true := f19
              obtain ⟨x20, t20, f20⟩ := hJ.fact 20 206 (by decide) (by kernel_rfl)
              obtain rfl : x20 = .int .i64 3 := f20
              obtain ⟨x21, t21, f21⟩ := hJ.fact 21 207 (by decide) (by kernel_rfl)
              obtain rfl : x21 = .bool true := f21
              obtain ⟨x22, t22, f22⟩ := hJ.fact 22 208 (by decide) (by kernel_rfl)
              obtain rfl : x22 = .bool true := f22
              obtain ⟨x23, t23, f23⟩ := hJ.fact 23 209 (by decide) (by kernel_rfl)
              obtain rfl : x23 = .bool true := f23
              obtain ⟨x24, t24, f24⟩ := hJ.fact 24 210 (by decide) (by kernel_rfl)
              obtain rfl : x24 = .int .i64 6 := f24
              obtain ⟨x25, t25, f25⟩ := hJ.fact 25 211 (by decide) (by kernel_rfl)
              obtain rfl : x25 = .bool true := f25
              obtain ⟨x26, t26, f26⟩ := hJ.fact 26 212 (by decide) (by kernel_rfl)
              obtain rfl : x26 = .bool true := f26
              obtain ⟨x27, t27, f27⟩ := hJ.fact 27 213 (by decide) (by kernel_rfl)
              obtain rfl : x27 = .bool true := f27
              obtain ⟨x28, t28, f28⟩ := hJ.fact 28 214 (by decide) (by kernel_rfl)
              obtain rfl : x28 = .agg #[.int .i64 1048576, .int .i64 2097152] := f28
              obtain ⟨x29, t29, f29⟩ := hJ.fact 29 215 (by decide) (by kernel_rfl)
              obtain rfl : x29 = .agg #[.int .i64 1048576, .int .i64 2097152] := f29
              obtain ⟨x30, t30, f30⟩ := hJ.fact 30 216 (by decide) (by kernel_rfl)
              obtain rfl : x30 = .bool true := f30
              obtain ⟨x31, t31, f31⟩ := hJ.fact 31 217 (by decide) (by kernel_rfl)
              obtain rfl : x31 = .bool true := f31
              obtain ⟨x32, t32, f32⟩ := hJ.fact 32 218 (by decide) (by kernel_rfl)
              obtain rfl : x32 = .bool true := f32
              obtain ⟨x33, t33, f33⟩ := hJ.fact 33 219 (by decide) (by kernel_rfl)
              obtain rfl : x33 = .int .i64 0 := f33
              obtain ⟨x34, t34, f34⟩ := hJ.fact 34 220 (by decide) (by kernel_rfl)
              obtain rfl : x34 = .bool true := f34
              obtain ⟨x35, t35, f35⟩ := hJ.fact 35 221 (by decide) (by kernel_rfl)
              obtain rfl : x35 = .bool true := f35
              obtain ⟨x36, t36, f36⟩ := hJ.fact 36 222 (by decide) (by kernel_rfl)
              obtain rfl : x36 = .bool true := f36
              obtain ⟨x37, t37, f37⟩ := hJ.fact 37 223 (by decide) (by kernel_rfl)
              obtain rfl : x37 = .int .i64 6 := f37
              obtain ⟨x38, t38, f38⟩ := hJ.fact 38 224 (by decide) (by kernel_rfl)
              obtain rfl : x38 = .bool true := f38
              obtain ⟨x39, t39, f39⟩ := hJ.fact 39 225 (by decide) (by kernel_rfl)
              obtain rfl : x39 = .bool true := f39
              obtain ⟨x40, t40, f40⟩ := hJ.fact 40 226 (by decide) (by kernel_rfl)
              obtain rfl : x40 = .bool true := f40
              obtain ⟨x41, t41, f41⟩ := hJ.fact 41 227 (by decide) (by kernel_rfl)
              obtain rfl : x41 = .int .i64 9 := f41
              obtain ⟨x42, t42, f42⟩ := hJ.fact 42 228 (by decide) (by kernel_rfl)
              obtain rfl : x42 = .bool true := f42
              obtain ⟨x43, t43, f43⟩ := hJ.fact 43 229 (by decide) (by kernel_rfl)
              obtain rfl : x43 = .bool true := f43
              obtain ⟨x44, t44, f44⟩ := hJ.fact 44 230 (by decide) (by kernel_rfl)
              obtain rfl : x44 = .bool true := f44
              obtain ⟨x45, t45, f45⟩ := hJ.fact 45 231 (by decide) (by kernel_rfl)
              obtain rfl : x45 = .int .i64 0 := f45
              obtain ⟨x46, t46, f46⟩ := hJ.fact 46 232 (by decide) (by kernel_rfl)
              obtain rfl : x46 = .bool true := f46
              obtain ⟨x47, t47, f47⟩ := hJ.fact 47 233 (by decide) (by kernel_rfl)
              obtain rfl : x47 = .bool true := f47
              obtain ⟨x48, t48, f48⟩ := hJ.fact 48 234 (by decide) (by kernel_rfl)
              obtain rfl : x48 = .bool true := f48
              obtain ⟨x49, t49, f49⟩ := hJ.fact 49 235 (by decide) (by kernel_rfl)
              obtain rfl : x49 = .agg #[.int .i64 1048576, .int .i64 2097152] := f49
              obtain ⟨x50, t50, f50⟩ := hJ.fact 50 236 (by decide) (by kernel_rfl)
              replace f50 : IntsAt wz30 x50 [0, 1048576, 549755813888, 1048576] := f50
              obtain ⟨x51, t51, f51⟩ := hJ.fact 51 237 (by decide) (by kernel_rfl)
              replace f51 : RowAt wz30 x51 [(0, 1048576), (549755813888, 1048576)] := f51
              obtain ⟨x52, t52, f52⟩ := hJ.fact 52 238 (by decide) (by kernel_rfl)
              obtain rfl : x52 = .bool true := f52
              obtain ⟨x53, t53, f53⟩ := hJ.fact 53 239 (by decide) (by kernel_rfl)
              obtain rfl : x53 = .bool true := f53
              obtain ⟨x54, t54, f54⟩ := hJ.fact 54 240 (by decide) (by kernel_rfl)
              obtain rfl : x54 = .bool true := f54
              obtain ⟨x55, t55, f55⟩ := hJ.fact 55 241 (by decide) (by kernel_rfl)
              obtain rfl : x55 = .agg #[.int .i64 1, .int .i64 1] := f55
              obtain ⟨x56, t56, f56⟩ := hJ.fact 56 242 (by decide) (by kernel_rfl)
              replace f56 : IntsAt wz30 x56 [0, 1, 1048575, 1] := f56
              obtain ⟨x57, t57, f57⟩ := hJ.fact 57 243 (by decide) (by kernel_rfl)
              replace f57 : RowAt wz30 x57 [(0, 1), (1048575, 1)] := f57
              obtain ⟨x58, t58, f58⟩ := hJ.fact 58 244 (by decide) (by kernel_rfl)
              obtain rfl : x58 = .bool false := f58
              obtain ⟨x59, t59, f59⟩ := hJ.fact 59 245 (by decide) (by kernel_rfl)
              obtain rfl : x59 = .bool true := f59
              obtain ⟨x60, t60, f60⟩ := hJ.fact 60 246 (by decide) (by kernel_rfl)
              obtain rfl : x60 = .bool true := f60
              obtain ⟨x61, t61, f61⟩ := hJ.fact 61 247 (by decide) (by kernel_rfl)
              obtain rfl : x61 = .bool true := f61
              obtain ⟨x62, t62, f62⟩ := hJ.fact 62 248 (by decide) (by kernel_rfl)
              obtain rfl : x62 = .agg #[.int .i64 1, .int .i64 1] := f62
              obtain ⟨x63, t63, f63⟩ := hJ.fact 63 249 (by decide) (by kernel_rfl)
              replace f63 : IntsAt wz30 x63 [0, 1, 1048576, 1] := f63
              obtain ⟨x64, t64, f64⟩ := hJ.fact 64 250 (by decide) (by kernel_rfl)
              replace f64 : RowAt wz30 x64 [(0, 1), (1048576, 1)] := f64
              obtain ⟨x65, t65, f65⟩ := hJ.fact 65 251 (by decide) (by kernel_rfl)
              obtain rfl : x65 = .bool true := f65
              obtain ⟨x66, t66, f66⟩ := hJ.fact 66 252 (by decide) (by kernel_rfl)
              obtain rfl : x66 = .bool true := f66
              obtain ⟨x67, t67, f67⟩ := hJ.fact 67 0 (by decide) (by kernel_rfl)
              obtain rfl : x67 = .bool true := f67
              have hfr := hJ.frame ((186, .bool true) :: (187, .bool true) :: (188, .bool true) :: (189, .bool true) :: (190, .int .i64 2199024304128) :: (191, .bool true) :: (192, .bool true) :: (193, .bool true) :: (194, .int .i64 0) :: (195, .bool true) :: (196, .bool true) :: (197, .bool true) :: (198, .int .i64 2) :: (199, .bool true) :: (200, .bool true) :: (201, .bool true) :: (202, .int .i64 2) :: (203, .bool true) :: (204, .bool true) :: (205, .bool true) :: (206, .int .i64 3) :: (207, .bool true) :: (208, .bool true) :: (209, .bool true) :: (210, .int .i64 6) :: (211, .bool true) :: (212, .bool true) :: (213, .bool true) :: (214, .agg #[.int .i64 1048576, .int .i64 2097152]) :: (215, .agg #[.int .i64 1048576, .int .i64 2097152]) :: (216, .bool true) :: (217, .bool true) :: (218, .bool true) :: (219, .int .i64 0) :: (220, .bool true) :: (221, .bool true) :: (222, .bool true) :: (223, .int .i64 6) :: (224, .bool true) :: (225, .bool true) :: (226, .bool true) :: (227, .int .i64 9) :: (228, .bool true) :: (229, .bool true) :: (230, .bool true) :: (231, .int .i64 0) :: (232, .bool true) :: (233, .bool true) :: (234, .bool true) :: (235, .agg #[.int .i64 1048576, .int .i64 2097152]) :: (236, x50) :: (237, x51) :: (238, .bool true) :: (239, .bool true) :: (240, .bool true) :: (241, .agg #[.int .i64 1, .int .i64 1]) :: (242, x56) :: (243, x57) :: (244, .bool false) :: (245, .bool true) :: (246, .bool true) :: (247, .bool true) :: (248, .agg #[.int .i64 1, .int .i64 1]) :: (249, x63) :: (250, x64) :: (251, .bool true) :: (252, .bool true) :: (0, .bool true) :: []) (by simp [t0, t1, t2, t3, t4, t5, t6, t7, t8, t9, t10, t11, t12, t13, t14, t15, t16, t17, t18, t19, t20, t21, t22, t23, t24, t25, t26, t27, t28, t29, t30, t31, t32, t33, t34, t35, t36, t37, t38, t39, t40, t41, t42, t43, t44, t45, t46, t47, t48, t49, t50, t51, t52, t53, t54, t55, t56, t57, t58, t59, t60, t61, t62, t63, t64, t65, t66, t67]) (by kernel_rfl)
              have G := hJ.keep
              clear hJ t0 t1 t2 t3 t4 t5 t6 t7 t8 t9 t10 t11 t12 t13 t14 t15 t16 t17 t18 t19 t20 t21 t22 t23 t24 t25 t26 t27 t28 t29 t30 t31 t32 t33 t34 t35 t36 t37 t38 t39 t40 t41 t42 t43 t44 t45 t46 t47 t48 t49 t50 t51 t52 t53 t54 t55 t56 t57 t58 t59 t60 t61 t62 t63 t64 t65 t66 t67
              rw [hfr]
              clear hfr T30
              simp only [List.foldl_cons, List.foldl_nil, List.setIfInBounds_toArray, List.set_cons_zero, List.set_cons_succ]
              go_wp2
              go_ret
              exact ⟨rfl, KK.out.trans G⟩
            case steps30 =>
              refine LinSteps.cons (k := 0) ?_ (LinSteps.cons (k := 1) ?_ (LinSteps.cons (k := 2) ?_ (LinSteps.cons (k := 3) ?_ (LinSteps.cons (k := 4) ?_ (LinSteps.cons (k := 5) ?_ (LinSteps.cons (k := 6) ?_ (LinSteps.cons (k := 7) ?_ (LinSteps.cons (k := 8) ?_ (LinSteps.cons (k := 9) ?_ (LinSteps.cons (k := 10) ?_ (LinSteps.cons (k := 11) ?_ (LinSteps.cons (k := 12) ?_ (LinSteps.cons (k := 13) ?_ (LinSteps.cons (k := 14) ?_ (LinSteps.cons (k := 15) ?_ (LinSteps.cons (k := 16) ?_ (LinSteps.cons (k := 17) ?_ (LinSteps.cons (k := 18) ?_ (LinSteps.cons (k := 19) ?_ (LinSteps.cons (k := 20) ?_ (LinSteps.cons (k := 21) ?_ (LinSteps.cons (k := 22) ?_ (LinSteps.cons (k := 23) ?_ (LinSteps.cons (k := 24) ?_ (LinSteps.cons (k := 25) ?_ (LinSteps.cons (k := 26) ?_ (LinSteps.cons (k := 27) ?_ (LinSteps.cons (k := 28) ?_ (LinSteps.cons (k := 29) ?_ (LinSteps.cons (k := 30) ?_ (LinSteps.cons (k := 31) ?_ (LinSteps.cons (k := 32) ?_ (LinSteps.cons (k := 33) ?_ (LinSteps.cons (k := 34) ?_ (LinSteps.cons (k := 35) ?_ (LinSteps.cons (k := 36) ?_ (LinSteps.cons (k := 37) ?_ (LinSteps.cons (k := 38) ?_ (LinSteps.cons (k := 39) ?_ (LinSteps.cons (k := 40) ?_ (LinSteps.cons (k := 41) ?_ (LinSteps.cons (k := 42) ?_ (LinSteps.cons (k := 43) ?_ (LinSteps.cons (k := 44) ?_ (LinSteps.cons (k := 45) ?_ (LinSteps.cons (k := 46) ?_ (LinSteps.cons (k := 47) ?_ (LinSteps.cons (k := 48) ?_ (LinSteps.cons (k := 49) ?_ (LinSteps.cons (k := 50) ?_ (LinSteps.cons (k := 51) ?_ (LinSteps.cons (k := 52) ?_ (LinSteps.cons (k := 53) ?_ (LinSteps.cons (k := 54) ?_ (LinSteps.cons (k := 55) ?_ (LinSteps.cons (k := 56) ?_ (LinSteps.cons (k := 57) ?_ (LinSteps.cons (k := 58) ?_ (LinSteps.cons (k := 59) ?_ (LinSteps.cons (k := 60) ?_ (LinSteps.cons (k := 61) ?_ (LinSteps.cons (k := 62) ?_ (LinSteps.cons (k := 63) ?_ (LinSteps.cons (k := 64) ?_ (LinSteps.cons (k := 65) ?_ (LinSteps.cons (k := 66) ?_ (LinSteps.cons (k := 67) ?_ (LinSteps.nil))))))))))))))))))))))))))))))))))))))))))))))))))))))))))))))))))))
              · -- 0
                refine LinStep.plain rfl ?_
                intro QQ bb T ww hn hJ hd K HK
                have G := hJ.keep
                clear hJ hd hn
                go_simp
                exact HK.out _ _ (Keep.refl _) rfl
              · -- 1
                refine LinStep.guarded 0 186 true rfl (by kernel_rfl) (by kernel_rfl) (fun _ _ h => h) ?_
                intro QQ bb T ww hn hJ hd K HK
                have G := hJ.keep
                clear hJ hd hn
                go_wp2_with (go_at_call 15; ((with_reducible refine (works_yes _).mono ?_); rintro _ w9 ⟨rfl, hk⟩))
                exact HK.out _ _ hk rfl
              · -- 2
                refine LinStep.plain rfl ?_
                intro QQ bb T ww hn hJ hd K HK
                obtain ⟨x0, t0, f0⟩ := hJ.dep hd 0 186 (by kernel_rfl) (by kernel_rfl)
                obtain rfl : x0 = .bool true := f0
                obtain ⟨x1, t1, f1⟩ := hJ.dep hd 1 187 (by kernel_rfl) (by kernel_rfl)
                obtain rfl : x1 = .bool true := f1
                have G := hJ.keep
                clear hJ hd hn
                go_simp
                exact HK.out _ _ (Keep.refl _) rfl
              · -- 3
                refine LinStep.plain rfl ?_
                intro QQ bb T ww hn hJ hd K HK
                obtain ⟨x2, t2, f2⟩ := hJ.dep hd 2 188 (by kernel_rfl) (by kernel_rfl)
                obtain rfl : x2 = .bool true := f2
                have G := hJ.keep
                clear hJ hd hn
                go_simp
                exact HK.out _ _ (Keep.refl _) rfl
              · -- 4
                refine LinStep.guarded 3 189 true rfl (by kernel_rfl) (by kernel_rfl) (fun _ _ h => h) ?_
                intro QQ bb T ww hn hJ hd K HK
                have s21 := (hJ.oldSlot 21 (by kernel_rfl))
                simp only [List.getElem?_toArray, List.getElem?_cons_zero, List.getElem?_cons_succ] at s21
                have G := hJ.keep
                clear hJ hd hn
                go_simp
                exact HK.out _ _ (Keep.refl _) rfl
              · -- 5
                refine LinStep.guarded 3 189 true rfl (by kernel_rfl) (by kernel_rfl) (fun _ _ h => h) ?_
                intro QQ bb T ww hn hJ hd K HK
                obtain ⟨x4, t4, f4⟩ := hJ.dep hd 4 190 (by kernel_rfl) (by kernel_rfl)
                obtain rfl : x4 = .int .i64 2199024304128 := f4
                have G := hJ.keep
                clear hJ hd hn
                go_simp
                exact HK.out _ _ (Keep.refl _) rfl
              · -- 6
                refine LinStep.plain rfl ?_
                intro QQ bb T ww hn hJ hd K HK
                obtain ⟨x3, t3, f3⟩ := hJ.dep hd 3 189 (by kernel_rfl) (by kernel_rfl)
                obtain rfl : x3 = .bool true := f3
                obtain ⟨x5, t5, f5⟩ := hJ.dep hd 5 191 (by kernel_rfl) (by kernel_rfl)
                obtain rfl : x5 = .bool true := f5
                have G := hJ.keep
                clear hJ hd hn
                go_simp
                exact HK.out _ _ (Keep.refl _) rfl
              · -- 7
                refine LinStep.plain rfl ?_
                intro QQ bb T ww hn hJ hd K HK
                obtain ⟨x6, t6, f6⟩ := hJ.dep hd 6 192 (by kernel_rfl) (by kernel_rfl)
                obtain rfl : x6 = .bool true := f6
                have G := hJ.keep
                clear hJ hd hn
                go_simp
                exact HK.out _ _ (Keep.refl _) rfl
              · -- 8
                refine LinStep.guarded 7 193 true rfl (by kernel_rfl) (by kernel_rfl) (fun _ _ h => h) ?_
                intro QQ bb T ww hn hJ hd K HK
                have s22 := (hJ.oldSlot 22 (by kernel_rfl))
                simp only [List.getElem?_toArray, List.getElem?_cons_zero, List.getElem?_cons_succ] at s22
                have G := hJ.keep
                clear hJ hd hn
                go_simp
                exact HK.out _ _ (Keep.refl _) rfl
              · -- 9
                refine LinStep.guarded 7 193 true rfl (by kernel_rfl) (by kernel_rfl) (fun _ _ h => h) ?_
                intro QQ bb T ww hn hJ hd K HK
                obtain ⟨x8, t8, f8⟩ := hJ.dep hd 8 194 (by kernel_rfl) (by kernel_rfl)
                obtain rfl : x8 = .int .i64 0 := f8
                have G := hJ.keep
                clear hJ hd hn
                go_simp
                exact HK.out _ _ (Keep.refl _) rfl
              · -- 10
                refine LinStep.plain rfl ?_
                intro QQ bb T ww hn hJ hd K HK
                obtain ⟨x7, t7, f7⟩ := hJ.dep hd 7 193 (by kernel_rfl) (by kernel_rfl)
                obtain rfl : x7 = .bool true := f7
                obtain ⟨x9, t9, f9⟩ := hJ.dep hd 9 195 (by kernel_rfl) (by kernel_rfl)
                obtain rfl : x9 = .bool true := f9
                have G := hJ.keep
                clear hJ hd hn
                go_simp
                exact HK.out _ _ (Keep.refl _) rfl
              · -- 11
                refine LinStep.plain rfl ?_
                intro QQ bb T ww hn hJ hd K HK
                obtain ⟨x10, t10, f10⟩ := hJ.dep hd 10 196 (by kernel_rfl) (by kernel_rfl)
                obtain rfl : x10 = .bool true := f10
                have G := hJ.keep
                clear hJ hd hn
                go_simp
                exact HK.out _ _ (Keep.refl _) rfl
              · -- 12
                refine LinStep.guarded 11 197 true rfl (by kernel_rfl) (by kernel_rfl) (fun _ _ h => h) ?_
                intro QQ bb T ww hn hJ hd K HK
                have s24 := (hJ.oldSlot 24 (by kernel_rfl))
                simp only [List.getElem?_toArray, List.getElem?_cons_zero, List.getElem?_cons_succ] at s24
                have G := hJ.keep
                clear hJ hd hn
                go_simp
                exact HK.out _ _ (Keep.refl _) rfl
              · -- 13
                refine LinStep.guarded 11 197 true rfl (by kernel_rfl) (by kernel_rfl) (fun _ _ h => h) ?_
                intro QQ bb T ww hn hJ hd K HK
                obtain ⟨x12, t12, f12⟩ := hJ.dep hd 12 198 (by kernel_rfl) (by kernel_rfl)
                obtain rfl : x12 = .int .i64 2 := f12
                have G := hJ.keep
                clear hJ hd hn
                go_simp
                exact HK.out _ _ (Keep.refl _) rfl
              · -- 14
                refine LinStep.plain rfl ?_
                intro QQ bb T ww hn hJ hd K HK
                obtain ⟨x11, t11, f11⟩ := hJ.dep hd 11 197 (by kernel_rfl) (by kernel_rfl)
                obtain rfl : x11 = .bool true := f11
                obtain ⟨x13, t13, f13⟩ := hJ.dep hd 13 199 (by kernel_rfl) (by kernel_rfl)
                obtain rfl : x13 = .bool true := f13
                have G := hJ.keep
                clear hJ hd hn
                go_simp
                exact HK.out _ _ (Keep.refl _) rfl
              · -- 15
                refine LinStep.plain rfl ?_
                intro QQ bb T ww hn hJ hd K HK
                obtain ⟨x14, t14, f14⟩ := hJ.dep hd 14 200 (by kernel_rfl) (by kernel_rfl)
                obtain rfl : x14 = .bool true := f14
                have G := hJ.keep
                clear hJ hd hn
                go_simp
                exact HK.out _ _ (Keep.refl _) rfl
              · -- 16
                refine LinStep.guarded 15 201 true rfl (by kernel_rfl) (by kernel_rfl) (fun _ _ h => h) ?_
                intro QQ bb T ww hn hJ hd K HK
                have s26 := (hJ.oldSlot 26 (by kernel_rfl))
                simp only [List.getElem?_toArray, List.getElem?_cons_zero, List.getElem?_cons_succ] at s26
                have G := hJ.keep
                clear hJ hd hn
                go_simp
                exact HK.out _ _ (Keep.refl _) rfl
              · -- 17
                refine LinStep.guarded 15 201 true rfl (by kernel_rfl) (by kernel_rfl) (fun _ _ h => h) ?_
                intro QQ bb T ww hn hJ hd K HK
                obtain ⟨x16, t16, f16⟩ := hJ.dep hd 16 202 (by kernel_rfl) (by kernel_rfl)
                obtain rfl : x16 = .int .i64 2 := f16
                have G := hJ.keep
                clear hJ hd hn
                go_simp
                exact HK.out _ _ (Keep.refl _) rfl
              · -- 18
                refine LinStep.plain rfl ?_
                intro QQ bb T ww hn hJ hd K HK
                obtain ⟨x15, t15, f15⟩ := hJ.dep hd 15 201 (by kernel_rfl) (by kernel_rfl)
                obtain rfl : x15 = .bool true := f15
                obtain ⟨x17, t17, f17⟩ := hJ.dep hd 17 203 (by kernel_rfl) (by kernel_rfl)
                obtain rfl : x17 = .bool true := f17
                have G := hJ.keep
                clear hJ hd hn
                go_simp
                exact HK.out _ _ (Keep.refl _) rfl
              · -- 19
                refine LinStep.plain rfl ?_
                intro QQ bb T ww hn hJ hd K HK
                obtain ⟨x18, t18, f18⟩ := hJ.dep hd 18 204 (by kernel_rfl) (by kernel_rfl)
                obtain rfl : x18 = .bool true := f18
                have G := hJ.keep
                clear hJ hd hn
                go_simp
                exact HK.out _ _ (Keep.refl _) rfl
              · -- 20
                refine LinStep.guarded 19 205 true rfl (by kernel_rfl) (by kernel_rfl) (fun _ _ h => h) ?_
                intro QQ bb T ww hn hJ hd K HK
                have s28 := (hJ.oldSlot 28 (by kernel_rfl))
                simp only [List.getElem?_toArray, List.getElem?_cons_zero, List.getElem?_cons_succ] at s28
                have G := hJ.keep
                clear hJ hd hn
                go_simp
                exact HK.out _ _ (Keep.refl _) rfl
              · -- 21
                refine LinStep.guarded 19 205 true rfl (by kernel_rfl) (by kernel_rfl) (fun _ _ h => h) ?_
                intro QQ bb T ww hn hJ hd K HK
                obtain ⟨x20, t20, f20⟩ := hJ.dep hd 20 206 (by kernel_rfl) (by kernel_rfl)
                obtain rfl : x20 = .int .i64 3 := f20
                have G := hJ.keep
                clear hJ hd hn
                go_simp
                exact HK.out _ _ (Keep.refl _) rfl
              · -- 22
                refine LinStep.plain rfl ?_
                intro QQ bb T ww hn hJ hd K HK
                obtain ⟨x19, t19, f19⟩ := hJ.dep hd 19 205 (by kernel_rfl) (by kernel_rfl)
                obtain rfl : x19 = .bool true := f19
                obtain ⟨x21, t21, f21⟩ := hJ.dep hd 21 207 (by kernel_rfl) (by kernel_rfl)
                obtain rfl : x21 = .bool true := f21
                have G := hJ.keep
                clear hJ hd hn
                go_simp
                exact HK.out _ _ (Keep.refl _) rfl
              · -- 23
                refine LinStep.plain rfl ?_
                intro QQ bb T ww hn hJ hd K HK
                obtain ⟨x22, t22, f22⟩ := hJ.dep hd 22 208 (by kernel_rfl) (by kernel_rfl)
                obtain rfl : x22 = .bool true := f22
                have G := hJ.keep
                clear hJ hd hn
                go_simp
                exact HK.out _ _ (Keep.refl _) rfl
              · -- 24
                refine LinStep.guarded 23 209 true rfl (by kernel_rfl) (by kernel_rfl) (fun _ _ h => h) ?_
                intro QQ bb T ww hn hJ hd K HK
                have s30 := (hJ.oldSlot 30 (by kernel_rfl))
                simp only [List.getElem?_toArray, List.getElem?_cons_zero, List.getElem?_cons_succ] at s30
                have G := hJ.keep
                clear hJ hd hn
                go_simp
                exact HK.out _ _ (Keep.refl _) rfl
              · -- 25
                refine LinStep.guarded 23 209 true rfl (by kernel_rfl) (by kernel_rfl) (fun _ _ h => h) ?_
                intro QQ bb T ww hn hJ hd K HK
                obtain ⟨x24, t24, f24⟩ := hJ.dep hd 24 210 (by kernel_rfl) (by kernel_rfl)
                obtain rfl : x24 = .int .i64 6 := f24
                have G := hJ.keep
                clear hJ hd hn
                go_simp
                exact HK.out _ _ (Keep.refl _) rfl
              · -- 26
                refine LinStep.plain rfl ?_
                intro QQ bb T ww hn hJ hd K HK
                obtain ⟨x23, t23, f23⟩ := hJ.dep hd 23 209 (by kernel_rfl) (by kernel_rfl)
                obtain rfl : x23 = .bool true := f23
                obtain ⟨x25, t25, f25⟩ := hJ.dep hd 25 211 (by kernel_rfl) (by kernel_rfl)
                obtain rfl : x25 = .bool true := f25
                have G := hJ.keep
                clear hJ hd hn
                go_simp
                exact HK.out _ _ (Keep.refl _) rfl
              · -- 27
                refine LinStep.plain rfl ?_
                intro QQ bb T ww hn hJ hd K HK
                obtain ⟨x26, t26, f26⟩ := hJ.dep hd 26 212 (by kernel_rfl) (by kernel_rfl)
                obtain rfl : x26 = .bool true := f26
                have G := hJ.keep
                clear hJ hd hn
                go_simp
                exact HK.out _ _ (Keep.refl _) rfl
              · -- 28
                refine LinStep.guarded 27 213 true rfl (by kernel_rfl) (by kernel_rfl) (fun _ _ h => h) ?_
                intro QQ bb T ww hn hJ hd K HK
                have s31 := (hJ.oldSlot 31 (by kernel_rfl))
                simp only [List.getElem?_toArray, List.getElem?_cons_zero, List.getElem?_cons_succ] at s31
                have G := hJ.keep
                clear hJ hd hn
                have k0 := G.some s0
                have k1 := G.some s1
                go_simp
                exact HK.out _ _ (Keep.refl _) rfl
              · -- 29
                refine LinStep.guarded 27 213 true rfl (by kernel_rfl) (by kernel_rfl) (fun _ _ h => h) ?_
                intro QQ bb T ww hn hJ hd K HK
                have s20 := (hJ.oldSlot 20 (by kernel_rfl))
                simp only [List.getElem?_toArray, List.getElem?_cons_zero, List.getElem?_cons_succ] at s20
                have G := hJ.keep
                clear hJ hd hn
                have k0 := G.some m0
                have k1 := G.some m1
                go_simp
                exact HK.out _ _ (Keep.refl _) rfl
              · -- 30
                refine LinStep.guarded 27 213 true rfl (by kernel_rfl) (by kernel_rfl) (fun _ _ h => h) ?_
                intro QQ bb T ww hn hJ hd K HK
                obtain ⟨x28, t28, f28⟩ := hJ.dep hd 28 214 (by kernel_rfl) (by kernel_rfl)
                obtain rfl : x28 = .agg #[.int .i64 1048576, .int .i64 2097152] := f28
                obtain ⟨x29, t29, f29⟩ := hJ.dep hd 29 215 (by kernel_rfl) (by kernel_rfl)
                obtain rfl : x29 = .agg #[.int .i64 1048576, .int .i64 2097152] := f29
                have G := hJ.keep
                clear hJ hd hn
                go_simp
                exact HK.out _ _ (Keep.refl _) rfl
              · -- 31
                refine LinStep.plain rfl ?_
                intro QQ bb T ww hn hJ hd K HK
                obtain ⟨x27, t27, f27⟩ := hJ.dep hd 27 213 (by kernel_rfl) (by kernel_rfl)
                obtain rfl : x27 = .bool true := f27
                obtain ⟨x30, t30, f30⟩ := hJ.dep hd 30 216 (by kernel_rfl) (by kernel_rfl)
                obtain rfl : x30 = .bool true := f30
                have G := hJ.keep
                clear hJ hd hn
                go_simp
                exact HK.out _ _ (Keep.refl _) rfl
              · -- 32
                refine LinStep.plain rfl ?_
                intro QQ bb T ww hn hJ hd K HK
                obtain ⟨x31, t31, f31⟩ := hJ.dep hd 31 217 (by kernel_rfl) (by kernel_rfl)
                obtain rfl : x31 = .bool true := f31
                have G := hJ.keep
                clear hJ hd hn
                go_simp
                exact HK.out _ _ (Keep.refl _) rfl
              · -- 33
                refine LinStep.guarded 32 218 true rfl (by kernel_rfl) (by kernel_rfl) (fun _ _ h => h) ?_
                intro QQ bb T ww hn hJ hd K HK
                have s32 := (hJ.oldSlot 32 (by kernel_rfl))
                simp only [List.getElem?_toArray, List.getElem?_cons_zero, List.getElem?_cons_succ] at s32
                have G := hJ.keep
                clear hJ hd hn
                go_simp
                exact HK.out _ _ (Keep.refl _) rfl
              · -- 34
                refine LinStep.guarded 32 218 true rfl (by kernel_rfl) (by kernel_rfl) (fun _ _ h => h) ?_
                intro QQ bb T ww hn hJ hd K HK
                obtain ⟨x33, t33, f33⟩ := hJ.dep hd 33 219 (by kernel_rfl) (by kernel_rfl)
                obtain rfl : x33 = .int .i64 0 := f33
                have G := hJ.keep
                clear hJ hd hn
                go_simp
                exact HK.out _ _ (Keep.refl _) rfl
              · -- 35
                refine LinStep.plain rfl ?_
                intro QQ bb T ww hn hJ hd K HK
                obtain ⟨x32, t32, f32⟩ := hJ.dep hd 32 218 (by kernel_rfl) (by kernel_rfl)
                obtain rfl : x32 = .bool true := f32
                obtain ⟨x34, t34, f34⟩ := hJ.dep hd 34 220 (by kernel_rfl) (by kernel_rfl)
                obtain rfl : x34 = .bool true := f34
                have G := hJ.keep
                clear hJ hd hn
                go_simp
                exact HK.out _ _ (Keep.refl _) rfl
              · -- 36
                refine LinStep.plain rfl ?_
                intro QQ bb T ww hn hJ hd K HK
                obtain ⟨x35, t35, f35⟩ := hJ.dep hd 35 221 (by kernel_rfl) (by kernel_rfl)
                obtain rfl : x35 = .bool true := f35
                have G := hJ.keep
                clear hJ hd hn
                go_simp
                exact HK.out _ _ (Keep.refl _) rfl
              · -- 37
                refine LinStep.guarded 36 222 true rfl (by kernel_rfl) (by kernel_rfl) (fun _ _ h => h) ?_
                intro QQ bb T ww hn hJ hd K HK
                have s34 := (hJ.oldSlot 34 (by kernel_rfl))
                simp only [List.getElem?_toArray, List.getElem?_cons_zero, List.getElem?_cons_succ] at s34
                have G := hJ.keep
                clear hJ hd hn
                go_simp
                exact HK.out _ _ (Keep.refl _) rfl
              · -- 38
                refine LinStep.guarded 36 222 true rfl (by kernel_rfl) (by kernel_rfl) (fun _ _ h => h) ?_
                intro QQ bb T ww hn hJ hd K HK
                obtain ⟨x37, t37, f37⟩ := hJ.dep hd 37 223 (by kernel_rfl) (by kernel_rfl)
                obtain rfl : x37 = .int .i64 6 := f37
                have G := hJ.keep
                clear hJ hd hn
                go_simp
                exact HK.out _ _ (Keep.refl _) rfl
              · -- 39
                refine LinStep.plain rfl ?_
                intro QQ bb T ww hn hJ hd K HK
                obtain ⟨x36, t36, f36⟩ := hJ.dep hd 36 222 (by kernel_rfl) (by kernel_rfl)
                obtain rfl : x36 = .bool true := f36
                obtain ⟨x38, t38, f38⟩ := hJ.dep hd 38 224 (by kernel_rfl) (by kernel_rfl)
                obtain rfl : x38 = .bool true := f38
                have G := hJ.keep
                clear hJ hd hn
                go_simp
                exact HK.out _ _ (Keep.refl _) rfl
              · -- 40
                refine LinStep.plain rfl ?_
                intro QQ bb T ww hn hJ hd K HK
                obtain ⟨x39, t39, f39⟩ := hJ.dep hd 39 225 (by kernel_rfl) (by kernel_rfl)
                obtain rfl : x39 = .bool true := f39
                have G := hJ.keep
                clear hJ hd hn
                go_simp
                exact HK.out _ _ (Keep.refl _) rfl
              · -- 41
                refine LinStep.guarded 40 226 true rfl (by kernel_rfl) (by kernel_rfl) (fun _ _ h => h) ?_
                intro QQ bb T ww hn hJ hd K HK
                have s35 := (hJ.oldSlot 35 (by kernel_rfl))
                simp only [List.getElem?_toArray, List.getElem?_cons_zero, List.getElem?_cons_succ] at s35
                have G := hJ.keep
                clear hJ hd hn
                go_simp
                exact HK.out _ _ (Keep.refl _) rfl
              · -- 42
                refine LinStep.guarded 40 226 true rfl (by kernel_rfl) (by kernel_rfl) (fun _ _ h => h) ?_
                intro QQ bb T ww hn hJ hd K HK
                obtain ⟨x41, t41, f41⟩ := hJ.dep hd 41 227 (by kernel_rfl) (by kernel_rfl)
                obtain rfl : x41 = .int .i64 9 := f41
                have G := hJ.keep
                clear hJ hd hn
                go_simp
                exact HK.out _ _ (Keep.refl _) rfl
              · -- 43
                refine LinStep.plain rfl ?_
                intro QQ bb T ww hn hJ hd K HK
                obtain ⟨x40, t40, f40⟩ := hJ.dep hd 40 226 (by kernel_rfl) (by kernel_rfl)
                obtain rfl : x40 = .bool true := f40
                obtain ⟨x42, t42, f42⟩ := hJ.dep hd 42 228 (by kernel_rfl) (by kernel_rfl)
                obtain rfl : x42 = .bool true := f42
                have G := hJ.keep
                clear hJ hd hn
                go_simp
                exact HK.out _ _ (Keep.refl _) rfl
              · -- 44
                refine LinStep.plain rfl ?_
                intro QQ bb T ww hn hJ hd K HK
                obtain ⟨x43, t43, f43⟩ := hJ.dep hd 43 229 (by kernel_rfl) (by kernel_rfl)
                obtain rfl : x43 = .bool true := f43
                have G := hJ.keep
                clear hJ hd hn
                go_simp
                exact HK.out _ _ (Keep.refl _) rfl
              · -- 45
                refine LinStep.guarded 44 230 true rfl (by kernel_rfl) (by kernel_rfl) (fun _ _ h => h) ?_
                intro QQ bb T ww hn hJ hd K HK
                have s36 := (hJ.oldSlot 36 (by kernel_rfl))
                simp only [List.getElem?_toArray, List.getElem?_cons_zero, List.getElem?_cons_succ] at s36
                have G := hJ.keep
                clear hJ hd hn
                go_simp
                exact HK.out _ _ (Keep.refl _) rfl
              · -- 46
                refine LinStep.guarded 44 230 true rfl (by kernel_rfl) (by kernel_rfl) (fun _ _ h => h) ?_
                intro QQ bb T ww hn hJ hd K HK
                obtain ⟨x45, t45, f45⟩ := hJ.dep hd 45 231 (by kernel_rfl) (by kernel_rfl)
                obtain rfl : x45 = .int .i64 0 := f45
                have G := hJ.keep
                clear hJ hd hn
                go_simp
                exact HK.out _ _ (Keep.refl _) rfl
              · -- 47
                refine LinStep.plain rfl ?_
                intro QQ bb T ww hn hJ hd K HK
                obtain ⟨x44, t44, f44⟩ := hJ.dep hd 44 230 (by kernel_rfl) (by kernel_rfl)
                obtain rfl : x44 = .bool true := f44
                obtain ⟨x46, t46, f46⟩ := hJ.dep hd 46 232 (by kernel_rfl) (by kernel_rfl)
                obtain rfl : x46 = .bool true := f46
                have G := hJ.keep
                clear hJ hd hn
                go_simp
                exact HK.out _ _ (Keep.refl _) rfl
              · -- 48
                refine LinStep.plain rfl ?_
                intro QQ bb T ww hn hJ hd K HK
                obtain ⟨x47, t47, f47⟩ := hJ.dep hd 47 233 (by kernel_rfl) (by kernel_rfl)
                obtain rfl : x47 = .bool true := f47
                have G := hJ.keep
                clear hJ hd hn
                go_simp
                exact HK.out _ _ (Keep.refl _) rfl
              · -- 49
                refine LinStep.guarded 48 234 true rfl (by kernel_rfl) (by kernel_rfl) (fun _ _ h => h) ?_
                intro QQ bb T ww hn hJ hd K HK
                have s20 := (hJ.oldSlot 20 (by kernel_rfl))
                simp only [List.getElem?_toArray, List.getElem?_cons_zero, List.getElem?_cons_succ] at s20
                have G := hJ.keep
                clear hJ hd hn
                have k0 := G.some m0
                have k1 := G.some m1
                go_simp
                exact HK.out _ _ (Keep.refl _) rfl
              · -- 50
                refine LinStep.guarded 48 234 true rfl (by kernel_rfl) (by kernel_rfl) (fun _ _ h => h) ?_
                intro QQ bb T ww hn hJ hd K HK
                have G := hJ.keep
                clear hJ hd hn
                go_simp
                exact HK.out _ _ (Keep.alloc (Keep.refl _) _) (intsNew _ [0, 1048576, 549755813888, 1048576] _ (by decide))
              · -- 51
                refine LinStep.guarded 48 234 true rfl (by kernel_rfl) (by kernel_rfl) (fun _ _ h => h) ?_
                intro QQ bb T ww hn hJ hd K HK
                obtain ⟨x50, t50, f50⟩ := hJ.dep hd 50 236 (by kernel_rfl) (by kernel_rfl)
                replace f50 : IntsAt ww x50 [0, 1048576, 549755813888, 1048576] := f50
                have G := hJ.keep
                clear hJ hd hn
                go_wp2_with (go_at_call 21; ((with_reducible refine (trace_is _ [0, 1048576, 549755813888, 1048576] [(0, 1048576), (549755813888, 1048576)] _ (Lib.hid f50) (Lib.hid (by decide))).mono ?_); rintro _ w9 ⟨v9, rfl, hr, hk, -⟩))
                exact HK.out _ _ hk (hr)
              · -- 52
                refine LinStep.guarded 48 234 true rfl (by kernel_rfl) (by kernel_rfl) (fun _ _ h => h) ?_
                intro QQ bb T ww hn hJ hd K HK
                obtain ⟨x49, t49, f49⟩ := hJ.dep hd 49 235 (by kernel_rfl) (by kernel_rfl)
                obtain rfl : x49 = .agg #[.int .i64 1048576, .int .i64 2097152] := f49
                obtain ⟨x51, t51, f51⟩ := hJ.dep hd 51 237 (by kernel_rfl) (by kernel_rfl)
                replace f51 : RowAt ww x51 [(0, 1048576), (549755813888, 1048576)] := f51
                have G := hJ.keep
                clear hJ hd hn
                go_wp2_with (go_at_call 19; ((with_reducible refine (lawFits_any 1048576 2097152 _ [(0, 1048576), (549755813888, 1048576)] _ (Lib.hid f51) true (Lib.hid (by decide))).mono ?_); rintro _ w9 ⟨rfl, hk⟩))
                exact HK.out _ _ hk rfl
              · -- 53
                refine LinStep.plain rfl ?_
                intro QQ bb T ww hn hJ hd K HK
                obtain ⟨x48, t48, f48⟩ := hJ.dep hd 48 234 (by kernel_rfl) (by kernel_rfl)
                obtain rfl : x48 = .bool true := f48
                obtain ⟨x52, t52, f52⟩ := hJ.dep hd 52 238 (by kernel_rfl) (by kernel_rfl)
                obtain rfl : x52 = .bool true := f52
                have G := hJ.keep
                clear hJ hd hn
                go_simp
                exact HK.out _ _ (Keep.refl _) rfl
              · -- 54
                refine LinStep.plain rfl ?_
                intro QQ bb T ww hn hJ hd K HK
                obtain ⟨x53, t53, f53⟩ := hJ.dep hd 53 239 (by kernel_rfl) (by kernel_rfl)
                obtain rfl : x53 = .bool true := f53
                have G := hJ.keep
                clear hJ hd hn
                go_simp
                exact HK.out _ _ (Keep.refl _) rfl
              · -- 55
                refine LinStep.guarded 54 240 true rfl (by kernel_rfl) (by kernel_rfl) (fun _ _ h => h) ?_
                intro QQ bb T ww hn hJ hd K HK
                have s1 := (hJ.oldSlot 1 (by kernel_rfl))
                simp only [List.getElem?_toArray, List.getElem?_cons_zero, List.getElem?_cons_succ] at s1
                have G := hJ.keep
                clear hJ hd hn
                have k0 := G.some gd0
                have k1 := G.some gd1
                go_simp
                exact HK.out _ _ (Keep.refl _) rfl
              · -- 56
                refine LinStep.guarded 54 240 true rfl (by kernel_rfl) (by kernel_rfl) (fun _ _ h => h) ?_
                intro QQ bb T ww hn hJ hd K HK
                have G := hJ.keep
                clear hJ hd hn
                go_simp
                exact HK.out _ _ (Keep.alloc (Keep.refl _) _) (intsNew _ [0, 1, 1048575, 1] _ (by decide))
              · -- 57
                refine LinStep.guarded 54 240 true rfl (by kernel_rfl) (by kernel_rfl) (fun _ _ h => h) ?_
                intro QQ bb T ww hn hJ hd K HK
                obtain ⟨x56, t56, f56⟩ := hJ.dep hd 56 242 (by kernel_rfl) (by kernel_rfl)
                replace f56 : IntsAt ww x56 [0, 1, 1048575, 1] := f56
                have G := hJ.keep
                clear hJ hd hn
                go_wp2_with (go_at_call 21; ((with_reducible refine (trace_is _ [0, 1, 1048575, 1] [(0, 1), (1048575, 1)] _ (Lib.hid f56) (Lib.hid (by decide))).mono ?_); rintro _ w9 ⟨v9, rfl, hr, hk, -⟩))
                exact HK.out _ _ hk (hr)
              · -- 58
                refine LinStep.guarded 54 240 true rfl (by kernel_rfl) (by kernel_rfl) (fun _ _ h => h) ?_
                intro QQ bb T ww hn hJ hd K HK
                obtain ⟨x55, t55, f55⟩ := hJ.dep hd 55 241 (by kernel_rfl) (by kernel_rfl)
                obtain rfl : x55 = .agg #[.int .i64 1, .int .i64 1] := f55
                obtain ⟨x57, t57, f57⟩ := hJ.dep hd 57 243 (by kernel_rfl) (by kernel_rfl)
                replace f57 : RowAt ww x57 [(0, 1), (1048575, 1)] := f57
                have G := hJ.keep
                clear hJ hd hn
                go_wp2_with (go_at_call 19; ((with_reducible refine (lawFits_any 1 1 _ [(0, 1), (1048575, 1)] _ (Lib.hid f57) false (Lib.hid (by decide))).mono ?_); rintro _ w9 ⟨rfl, hk⟩))
                exact HK.out _ _ hk rfl
              · -- 59
                refine LinStep.guarded 54 240 true rfl (by kernel_rfl) (by kernel_rfl) (fun _ _ h => h) ?_
                intro QQ bb T ww hn hJ hd K HK
                obtain ⟨x58, t58, f58⟩ := hJ.dep hd 58 244 (by kernel_rfl) (by kernel_rfl)
                obtain rfl : x58 = .bool false := f58
                have G := hJ.keep
                clear hJ hd hn
                go_simp
                exact HK.out _ _ (Keep.refl _) rfl
              · -- 60
                refine LinStep.plain rfl ?_
                intro QQ bb T ww hn hJ hd K HK
                obtain ⟨x54, t54, f54⟩ := hJ.dep hd 54 240 (by kernel_rfl) (by kernel_rfl)
                obtain rfl : x54 = .bool true := f54
                obtain ⟨x59, t59, f59⟩ := hJ.dep hd 59 245 (by kernel_rfl) (by kernel_rfl)
                obtain rfl : x59 = .bool true := f59
                have G := hJ.keep
                clear hJ hd hn
                go_simp
                exact HK.out _ _ (Keep.refl _) rfl
              · -- 61
                refine LinStep.plain rfl ?_
                intro QQ bb T ww hn hJ hd K HK
                obtain ⟨x60, t60, f60⟩ := hJ.dep hd 60 246 (by kernel_rfl) (by kernel_rfl)
                obtain rfl : x60 = .bool true := f60
                have G := hJ.keep
                clear hJ hd hn
                go_simp
                exact HK.out _ _ (Keep.refl _) rfl
              · -- 62
                refine LinStep.guarded 61 247 true rfl (by kernel_rfl) (by kernel_rfl) (fun _ _ h => h) ?_
                intro QQ bb T ww hn hJ hd K HK
                have s1 := (hJ.oldSlot 1 (by kernel_rfl))
                simp only [List.getElem?_toArray, List.getElem?_cons_zero, List.getElem?_cons_succ] at s1
                have G := hJ.keep
                clear hJ hd hn
                have k0 := G.some gd0
                have k1 := G.some gd1
                go_simp
                exact HK.out _ _ (Keep.refl _) rfl
              · -- 63
                refine LinStep.guarded 61 247 true rfl (by kernel_rfl) (by kernel_rfl) (fun _ _ h => h) ?_
                intro QQ bb T ww hn hJ hd K HK
                have G := hJ.keep
                clear hJ hd hn
                go_simp
                exact HK.out _ _ (Keep.alloc (Keep.refl _) _) (intsNew _ [0, 1, 1048576, 1] _ (by decide))
              · -- 64
                refine LinStep.guarded 61 247 true rfl (by kernel_rfl) (by kernel_rfl) (fun _ _ h => h) ?_
                intro QQ bb T ww hn hJ hd K HK
                obtain ⟨x63, t63, f63⟩ := hJ.dep hd 63 249 (by kernel_rfl) (by kernel_rfl)
                replace f63 : IntsAt ww x63 [0, 1, 1048576, 1] := f63
                have G := hJ.keep
                clear hJ hd hn
                go_wp2_with (go_at_call 21; ((with_reducible refine (trace_is _ [0, 1, 1048576, 1] [(0, 1), (1048576, 1)] _ (Lib.hid f63) (Lib.hid (by decide))).mono ?_); rintro _ w9 ⟨v9, rfl, hr, hk, -⟩))
                exact HK.out _ _ hk (hr)
              · -- 65
                refine LinStep.guarded 61 247 true rfl (by kernel_rfl) (by kernel_rfl) (fun _ _ h => h) ?_
                intro QQ bb T ww hn hJ hd K HK
                obtain ⟨x62, t62, f62⟩ := hJ.dep hd 62 248 (by kernel_rfl) (by kernel_rfl)
                obtain rfl : x62 = .agg #[.int .i64 1, .int .i64 1] := f62
                obtain ⟨x64, t64, f64⟩ := hJ.dep hd 64 250 (by kernel_rfl) (by kernel_rfl)
                replace f64 : RowAt ww x64 [(0, 1), (1048576, 1)] := f64
                have G := hJ.keep
                clear hJ hd hn
                go_wp2_with (go_at_call 19; ((with_reducible refine (lawFits_any 1 1 _ [(0, 1), (1048576, 1)] _ (Lib.hid f64) true (Lib.hid (by decide))).mono ?_); rintro _ w9 ⟨rfl, hk⟩))
                exact HK.out _ _ hk rfl
              · -- 66
                refine LinStep.plain rfl ?_
                intro QQ bb T ww hn hJ hd K HK
                obtain ⟨x61, t61, f61⟩ := hJ.dep hd 61 247 (by kernel_rfl) (by kernel_rfl)
                obtain rfl : x61 = .bool true := f61
                obtain ⟨x65, t65, f65⟩ := hJ.dep hd 65 251 (by kernel_rfl) (by kernel_rfl)
                obtain rfl : x65 = .bool true := f65
                have G := hJ.keep
                clear hJ hd hn
                go_simp
                exact HK.out _ _ (Keep.refl _) rfl
              · -- 67
                refine LinStep.plain rfl ?_
                intro QQ bb T ww hn hJ hd K HK
                obtain ⟨x66, t66, f66⟩ := hJ.dep hd 66 252 (by kernel_rfl) (by kernel_rfl)
                obtain rfl : x66 = .bool true := f66
                have G := hJ.keep
                clear hJ hd hn
                go_simp
                exact HK.out _ _ (Keep.refl _) rfl
      case startp => exact ⟨_, _, _, _, _, _, _, _, _, _, _, _, _, rfl, Keep.drew (Keep.refl _), fun h => h.elim, fun h => h.elim, fun h => h.elim, fun h => h.elim, fun h => h.elim, fun h => h.elim, fun h => h.elim, fun h => h.elim, fun h => h.elim, fun h => h.elim, fun h => h.elim, fun h => h.elim, fun h => h.elim⟩
      case stepsp =>
        refine StepsFrom.cons (k := 0) ?_ (StepsFrom.cons (k := 1) ?_ (StepsFrom.cons (k := 2) ?_ (StepsFrom.cons (k := 3) ?_ (StepsFrom.cons (k := 4) ?_ (StepsFrom.cons (k := 5) ?_ (StepsFrom.cons (k := 6) ?_ (StepsFrom.cons (k := 7) ?_ (StepsFrom.cons (k := 8) ?_ (StepsFrom.cons (k := 9) ?_ (StepsFrom.cons (k := 10) ?_ (StepsFrom.cons (k := 11) ?_ (StepsFrom.cons (k := 12) ?_ (StepsFrom.nil)))))))))))))
        · -- 0: fact
          rintro bb aa wp hn hd ⟨v94, v95, v96, v97, v98, v99, v100, v101, v102, v103, v104, v105, v106, rfl, G, f0, f1, f2, f3, f4, f5, f6, f7, f8, f9, f10, f11, f12⟩ K hK
          have HK := Lib.hid hK
          clear hK
          go_simp
          exact HK.out _ _ ⟨_, _, _, _, _, _, _, _, _, _, _, _, _, rfl, (G.trans (Keep.alloc (Keep.refl _) _)), fun _ => intsNew _ [5, 0] _ (by decide), fun h => (f1 (down (by decide) h)).keep (Keep.alloc (Keep.refl _) _), fun h => IntsAt.keep (f2 (down (by decide) h)) (Keep.alloc (Keep.refl _) _), fun h => (f3 (down (by decide) h)).keep (Keep.alloc (Keep.refl _) _), fun h => IntsAt.keep (f4 (down (by decide) h)) (Keep.alloc (Keep.refl _) _), fun h => (f5 (down (by decide) h)).keep (Keep.alloc (Keep.refl _) _), fun h => IntsAt.keep (f6 (down (by decide) h)) (Keep.alloc (Keep.refl _) _), fun h => (f7 (down (by decide) h)).keep (Keep.alloc (Keep.refl _) _), fun h => IntsAt.keep (f8 (down (by decide) h)) (Keep.alloc (Keep.refl _) _), fun h => (f9 (down (by decide) h)).keep (Keep.alloc (Keep.refl _) _), fun h => RowAt.keep (f10 (down (by decide) h)) (Keep.alloc (Keep.refl _) _), fun h => ⟨Or.inr (f11 (down (by decide) h)).1, Or.inr (f11 (down (by decide) h)).2.1, Or.inr (f11 (down (by decide) h)).2.2.1, Or.inr (f11 (down (by decide) h)).2.2.2.1, Or.inr (f11 (down (by decide) h)).2.2.2.2.1, Or.inr (f11 (down (by decide) h)).2.2.2.2.2.1, (f11 (down (by decide) h)).2.2.2.2.2.2⟩, up (by decide) f12⟩
        · -- 1: row
          rintro bb aa wp hn hd ⟨v94, v95, v96, v97, v98, v99, v100, v101, v102, v103, v104, v105, v106, rfl, G, f0, f1, f2, f3, f4, f5, f6, f7, f8, f9, f10, f11, f12⟩ K hK
          have b0 : bb 0 := hd ⟨0, .data⟩ (by simp) (by rfl)
          have HK := Lib.hid hK
          clear hK
          go_wp2_with (go_at_call 21; ((with_reducible refine (trace_is _ [5, 0] [(5, 0)] _ (Lib.hid (f0 b0)) (Lib.hid (by decide))).mono ?_); rintro _ w1 ⟨v1, rfl, hr, hk, hf⟩))
          exact HK.out _ _ ⟨_, _, _, _, _, _, _, _, _, _, _, _, _, rfl, (G.trans hk), fun h => IntsAt.keep (f0 (down (by decide) h)) hk, fun _ => hr, fun h => IntsAt.keep (f2 (down (by decide) h)) hk, fun h => (f3 (down (by decide) h)).keep hk, fun h => IntsAt.keep (f4 (down (by decide) h)) hk, fun h => (f5 (down (by decide) h)).keep hk, fun h => IntsAt.keep (f6 (down (by decide) h)) hk, fun h => (f7 (down (by decide) h)).keep hk, fun h => IntsAt.keep (f8 (down (by decide) h)) hk, fun h => (f9 (down (by decide) h)).keep hk, fun h => RowAt.keep (f10 (down (by decide) h)) hk, fun h => absurd (f11 (down (by decide) h)).1 hn, up (by decide) f12⟩
        · -- 2: fact
          rintro bb aa wp hn hd ⟨v94, v95, v96, v97, v98, v99, v100, v101, v102, v103, v104, v105, v106, rfl, G, f0, f1, f2, f3, f4, f5, f6, f7, f8, f9, f10, f11, f12⟩ K hK
          have HK := Lib.hid hK
          clear hK
          go_simp
          exact HK.out _ _ ⟨_, _, _, _, _, _, _, _, _, _, _, _, _, rfl, (G.trans (Keep.alloc (Keep.refl _) _)), fun h => IntsAt.keep (f0 (down (by decide) h)) (Keep.alloc (Keep.refl _) _), fun h => (f1 (down (by decide) h)).keep (Keep.alloc (Keep.refl _) _), fun _ => intsNew _ [(-1), 1] _ (by decide), fun h => (f3 (down (by decide) h)).keep (Keep.alloc (Keep.refl _) _), fun h => IntsAt.keep (f4 (down (by decide) h)) (Keep.alloc (Keep.refl _) _), fun h => (f5 (down (by decide) h)).keep (Keep.alloc (Keep.refl _) _), fun h => IntsAt.keep (f6 (down (by decide) h)) (Keep.alloc (Keep.refl _) _), fun h => (f7 (down (by decide) h)).keep (Keep.alloc (Keep.refl _) _), fun h => IntsAt.keep (f8 (down (by decide) h)) (Keep.alloc (Keep.refl _) _), fun h => (f9 (down (by decide) h)).keep (Keep.alloc (Keep.refl _) _), fun h => RowAt.keep (f10 (down (by decide) h)) (Keep.alloc (Keep.refl _) _), fun h => ⟨Or.inr (f11 (down (by decide) h)).1, Or.inr (f11 (down (by decide) h)).2.1, Or.inr (f11 (down (by decide) h)).2.2.1, Or.inr (f11 (down (by decide) h)).2.2.2.1, Or.inr (f11 (down (by decide) h)).2.2.2.2.1, Or.inr (f11 (down (by decide) h)).2.2.2.2.2.1, (f11 (down (by decide) h)).2.2.2.2.2.2⟩, up (by decide) f12⟩
        · -- 3: row
          rintro bb aa wp hn hd ⟨v94, v95, v96, v97, v98, v99, v100, v101, v102, v103, v104, v105, v106, rfl, G, f0, f1, f2, f3, f4, f5, f6, f7, f8, f9, f10, f11, f12⟩ K hK
          have b2 : bb 2 := hd ⟨2, .data⟩ (by simp) (by rfl)
          have HK := Lib.hid hK
          clear hK
          go_wp2_with (go_at_call 21; ((with_reducible refine (trace_is _ [(-1), 1] [(-1, 1)] _ (Lib.hid (f2 b2)) (Lib.hid (by decide))).mono ?_); rintro _ w1 ⟨v1, rfl, hr, hk, hf⟩))
          exact HK.out _ _ ⟨_, _, _, _, _, _, _, _, _, _, _, _, _, rfl, (G.trans hk), fun h => IntsAt.keep (f0 (down (by decide) h)) hk, fun h => (f1 (down (by decide) h)).keep hk, fun h => IntsAt.keep (f2 (down (by decide) h)) hk, fun _ => hr, fun h => IntsAt.keep (f4 (down (by decide) h)) hk, fun h => (f5 (down (by decide) h)).keep hk, fun h => IntsAt.keep (f6 (down (by decide) h)) hk, fun h => (f7 (down (by decide) h)).keep hk, fun h => IntsAt.keep (f8 (down (by decide) h)) hk, fun h => (f9 (down (by decide) h)).keep hk, fun h => RowAt.keep (f10 (down (by decide) h)) hk, fun h => absurd (f11 (down (by decide) h)).2.1 hn, up (by decide) f12⟩
        · -- 4: fact
          rintro bb aa wp hn hd ⟨v94, v95, v96, v97, v98, v99, v100, v101, v102, v103, v104, v105, v106, rfl, G, f0, f1, f2, f3, f4, f5, f6, f7, f8, f9, f10, f11, f12⟩ K hK
          have HK := Lib.hid hK
          clear hK
          go_simp
          exact HK.out _ _ ⟨_, _, _, _, _, _, _, _, _, _, _, _, _, rfl, (G.trans (Keep.alloc (Keep.refl _) _)), fun h => IntsAt.keep (f0 (down (by decide) h)) (Keep.alloc (Keep.refl _) _), fun h => (f1 (down (by decide) h)).keep (Keep.alloc (Keep.refl _) _), fun h => IntsAt.keep (f2 (down (by decide) h)) (Keep.alloc (Keep.refl _) _), fun h => (f3 (down (by decide) h)).keep (Keep.alloc (Keep.refl _) _), fun _ => intsNew _ [5, 1, 4, 1] _ (by decide), fun h => (f5 (down (by decide) h)).keep (Keep.alloc (Keep.refl _) _), fun h => IntsAt.keep (f6 (down (by decide) h)) (Keep.alloc (Keep.refl _) _), fun h => (f7 (down (by decide) h)).keep (Keep.alloc (Keep.refl _) _), fun h => IntsAt.keep (f8 (down (by decide) h)) (Keep.alloc (Keep.refl _) _), fun h => (f9 (down (by decide) h)).keep (Keep.alloc (Keep.refl _) _), fun h => RowAt.keep (f10 (down (by decide) h)) (Keep.alloc (Keep.refl _) _), fun h => ⟨Or.inr (f11 (down (by decide) h)).1, Or.inr (f11 (down (by decide) h)).2.1, Or.inr (f11 (down (by decide) h)).2.2.1, Or.inr (f11 (down (by decide) h)).2.2.2.1, Or.inr (f11 (down (by decide) h)).2.2.2.2.1, Or.inr (f11 (down (by decide) h)).2.2.2.2.2.1, (f11 (down (by decide) h)).2.2.2.2.2.2⟩, up (by decide) f12⟩
        · -- 5: row
          rintro bb aa wp hn hd ⟨v94, v95, v96, v97, v98, v99, v100, v101, v102, v103, v104, v105, v106, rfl, G, f0, f1, f2, f3, f4, f5, f6, f7, f8, f9, f10, f11, f12⟩ K hK
          have b4 : bb 4 := hd ⟨4, .data⟩ (by simp) (by rfl)
          have HK := Lib.hid hK
          clear hK
          go_wp2_with (go_at_call 21; ((with_reducible refine (trace_is _ [5, 1, 4, 1] [(5, 1), (4, 1)] _ (Lib.hid (f4 b4)) (Lib.hid (by decide))).mono ?_); rintro _ w1 ⟨v1, rfl, hr, hk, hf⟩))
          exact HK.out _ _ ⟨_, _, _, _, _, _, _, _, _, _, _, _, _, rfl, (G.trans hk), fun h => IntsAt.keep (f0 (down (by decide) h)) hk, fun h => (f1 (down (by decide) h)).keep hk, fun h => IntsAt.keep (f2 (down (by decide) h)) hk, fun h => (f3 (down (by decide) h)).keep hk, fun h => IntsAt.keep (f4 (down (by decide) h)) hk, fun _ => hr, fun h => IntsAt.keep (f6 (down (by decide) h)) hk, fun h => (f7 (down (by decide) h)).keep hk, fun h => IntsAt.keep (f8 (down (by decide) h)) hk, fun h => (f9 (down (by decide) h)).keep hk, fun h => RowAt.keep (f10 (down (by decide) h)) hk, fun h => absurd (f11 (down (by decide) h)).2.2.1 hn, up (by decide) f12⟩
        · -- 6: fact
          rintro bb aa wp hn hd ⟨v94, v95, v96, v97, v98, v99, v100, v101, v102, v103, v104, v105, v106, rfl, G, f0, f1, f2, f3, f4, f5, f6, f7, f8, f9, f10, f11, f12⟩ K hK
          have HK := Lib.hid hK
          clear hK
          go_simp
          exact HK.out _ _ ⟨_, _, _, _, _, _, _, _, _, _, _, _, _, rfl, (G.trans (Keep.alloc (Keep.refl _) _)), fun h => IntsAt.keep (f0 (down (by decide) h)) (Keep.alloc (Keep.refl _) _), fun h => (f1 (down (by decide) h)).keep (Keep.alloc (Keep.refl _) _), fun h => IntsAt.keep (f2 (down (by decide) h)) (Keep.alloc (Keep.refl _) _), fun h => (f3 (down (by decide) h)).keep (Keep.alloc (Keep.refl _) _), fun h => IntsAt.keep (f4 (down (by decide) h)) (Keep.alloc (Keep.refl _) _), fun h => (f5 (down (by decide) h)).keep (Keep.alloc (Keep.refl _) _), fun _ => intsNew _ [1099511627777, 1] _ (by decide), fun h => (f7 (down (by decide) h)).keep (Keep.alloc (Keep.refl _) _), fun h => IntsAt.keep (f8 (down (by decide) h)) (Keep.alloc (Keep.refl _) _), fun h => (f9 (down (by decide) h)).keep (Keep.alloc (Keep.refl _) _), fun h => RowAt.keep (f10 (down (by decide) h)) (Keep.alloc (Keep.refl _) _), fun h => ⟨Or.inr (f11 (down (by decide) h)).1, Or.inr (f11 (down (by decide) h)).2.1, Or.inr (f11 (down (by decide) h)).2.2.1, Or.inr (f11 (down (by decide) h)).2.2.2.1, Or.inr (f11 (down (by decide) h)).2.2.2.2.1, Or.inr (f11 (down (by decide) h)).2.2.2.2.2.1, (f11 (down (by decide) h)).2.2.2.2.2.2⟩, up (by decide) f12⟩
        · -- 7: row
          rintro bb aa wp hn hd ⟨v94, v95, v96, v97, v98, v99, v100, v101, v102, v103, v104, v105, v106, rfl, G, f0, f1, f2, f3, f4, f5, f6, f7, f8, f9, f10, f11, f12⟩ K hK
          have b6 : bb 6 := hd ⟨6, .data⟩ (by simp) (by rfl)
          have HK := Lib.hid hK
          clear hK
          go_wp2_with (go_at_call 21; ((with_reducible refine (trace_is _ [1099511627777, 1] [(1099511627777, 1)] _ (Lib.hid (f6 b6)) (Lib.hid (by decide))).mono ?_); rintro _ w1 ⟨v1, rfl, hr, hk, hf⟩))
          exact HK.out _ _ ⟨_, _, _, _, _, _, _, _, _, _, _, _, _, rfl, (G.trans hk), fun h => IntsAt.keep (f0 (down (by decide) h)) hk, fun h => (f1 (down (by decide) h)).keep hk, fun h => IntsAt.keep (f2 (down (by decide) h)) hk, fun h => (f3 (down (by decide) h)).keep hk, fun h => IntsAt.keep (f4 (down (by decide) h)) hk, fun h => (f5 (down (by decide) h)).keep hk, fun h => IntsAt.keep (f6 (down (by decide) h)) hk, fun _ => hr, fun h => IntsAt.keep (f8 (down (by decide) h)) hk, fun h => (f9 (down (by decide) h)).keep hk, fun h => RowAt.keep (f10 (down (by decide) h)) hk, fun h => absurd (f11 (down (by decide) h)).2.2.2.1 hn, up (by decide) f12⟩
        · -- 8: fact
          rintro bb aa wp hn hd ⟨v94, v95, v96, v97, v98, v99, v100, v101, v102, v103, v104, v105, v106, rfl, G, f0, f1, f2, f3, f4, f5, f6, f7, f8, f9, f10, f11, f12⟩ K hK
          have HK := Lib.hid hK
          clear hK
          go_simp
          exact HK.out _ _ ⟨_, _, _, _, _, _, _, _, _, _, _, _, _, rfl, (G.trans (Keep.alloc (Keep.refl _) _)), fun h => IntsAt.keep (f0 (down (by decide) h)) (Keep.alloc (Keep.refl _) _), fun h => (f1 (down (by decide) h)).keep (Keep.alloc (Keep.refl _) _), fun h => IntsAt.keep (f2 (down (by decide) h)) (Keep.alloc (Keep.refl _) _), fun h => (f3 (down (by decide) h)).keep (Keep.alloc (Keep.refl _) _), fun h => IntsAt.keep (f4 (down (by decide) h)) (Keep.alloc (Keep.refl _) _), fun h => (f5 (down (by decide) h)).keep (Keep.alloc (Keep.refl _) _), fun h => IntsAt.keep (f6 (down (by decide) h)) (Keep.alloc (Keep.refl _) _), fun h => (f7 (down (by decide) h)).keep (Keep.alloc (Keep.refl _) _), fun _ => intsNew _ [0, 1048577] _ (by decide), fun h => (f9 (down (by decide) h)).keep (Keep.alloc (Keep.refl _) _), fun h => RowAt.keep (f10 (down (by decide) h)) (Keep.alloc (Keep.refl _) _), fun h => ⟨Or.inr (f11 (down (by decide) h)).1, Or.inr (f11 (down (by decide) h)).2.1, Or.inr (f11 (down (by decide) h)).2.2.1, Or.inr (f11 (down (by decide) h)).2.2.2.1, Or.inr (f11 (down (by decide) h)).2.2.2.2.1, Or.inr (f11 (down (by decide) h)).2.2.2.2.2.1, (f11 (down (by decide) h)).2.2.2.2.2.2⟩, up (by decide) f12⟩
        · -- 9: row
          rintro bb aa wp hn hd ⟨v94, v95, v96, v97, v98, v99, v100, v101, v102, v103, v104, v105, v106, rfl, G, f0, f1, f2, f3, f4, f5, f6, f7, f8, f9, f10, f11, f12⟩ K hK
          have b8 : bb 8 := hd ⟨8, .data⟩ (by simp) (by rfl)
          have HK := Lib.hid hK
          clear hK
          go_wp2_with (go_at_call 21; ((with_reducible refine (trace_is _ [0, 1048577] [(0, 1048577)] _ (Lib.hid (f8 b8)) (Lib.hid (by decide))).mono ?_); rintro _ w1 ⟨v1, rfl, hr, hk, hf⟩))
          exact HK.out _ _ ⟨_, _, _, _, _, _, _, _, _, _, _, _, _, rfl, (G.trans hk), fun h => IntsAt.keep (f0 (down (by decide) h)) hk, fun h => (f1 (down (by decide) h)).keep hk, fun h => IntsAt.keep (f2 (down (by decide) h)) hk, fun h => (f3 (down (by decide) h)).keep hk, fun h => IntsAt.keep (f4 (down (by decide) h)) hk, fun h => (f5 (down (by decide) h)).keep hk, fun h => IntsAt.keep (f6 (down (by decide) h)) hk, fun h => (f7 (down (by decide) h)).keep hk, fun h => IntsAt.keep (f8 (down (by decide) h)) hk, fun _ => hr, fun h => RowAt.keep (f10 (down (by decide) h)) hk, fun h => absurd (f11 (down (by decide) h)).2.2.2.2.1 hn, up (by decide) f12⟩
        · -- 10: fact
          rintro bb aa wp hn hd ⟨v94, v95, v96, v97, v98, v99, v100, v101, v102, v103, v104, v105, v106, rfl, G, f0, f1, f2, f3, f4, f5, f6, f7, f8, f9, f10, f11, f12⟩ K hK
          have HK := Lib.hid hK
          clear hK
          go_simp
          exact HK.out _ _ ⟨_, _, _, _, _, _, _, _, _, _, _, _, _, rfl, (G.trans (Keep.alloc (Keep.refl _) _)), fun h => IntsAt.keep (f0 (down (by decide) h)) (Keep.alloc (Keep.refl _) _), fun h => (f1 (down (by decide) h)).keep (Keep.alloc (Keep.refl _) _), fun h => IntsAt.keep (f2 (down (by decide) h)) (Keep.alloc (Keep.refl _) _), fun h => (f3 (down (by decide) h)).keep (Keep.alloc (Keep.refl _) _), fun h => IntsAt.keep (f4 (down (by decide) h)) (Keep.alloc (Keep.refl _) _), fun h => (f5 (down (by decide) h)).keep (Keep.alloc (Keep.refl _) _), fun h => IntsAt.keep (f6 (down (by decide) h)) (Keep.alloc (Keep.refl _) _), fun h => (f7 (down (by decide) h)).keep (Keep.alloc (Keep.refl _) _), fun h => IntsAt.keep (f8 (down (by decide) h)) (Keep.alloc (Keep.refl _) _), fun h => (f9 (down (by decide) h)).keep (Keep.alloc (Keep.refl _) _), fun _ => rowMake _ 201 _ (by decide), fun h => absurd (f11 (down (by decide) h)).2.2.2.2.2.1 hn, up (by decide) f12⟩
        · -- 11: val
          rintro bb aa wp hn hd ⟨v94, v95, v96, v97, v98, v99, v100, v101, v102, v103, v104, v105, v106, rfl, G, f0, f1, f2, f3, f4, f5, f6, f7, f8, f9, f10, f11, f12⟩ K hK
          have b1 : bb 1 := hd ⟨1, .data⟩ (by simp) (by rfl)
          obtain ⟨a1, n1, c1, e1⟩ := (f1 b1).slice
          have R1 := Lib.hid (f1 b1)
          rw [e1] at R1
          subst e1
          have b3 : bb 3 := hd ⟨3, .data⟩ (by simp) (by rfl)
          obtain ⟨a3, n3, c3, e3⟩ := (f3 b3).slice
          have R3 := Lib.hid (f3 b3)
          rw [e3] at R3
          subst e3
          have b5 : bb 5 := hd ⟨5, .data⟩ (by simp) (by rfl)
          obtain ⟨a5, n5, c5, e5⟩ := (f5 b5).slice
          have R5 := Lib.hid (f5 b5)
          rw [e5] at R5
          subst e5
          have b7 : bb 7 := hd ⟨7, .data⟩ (by simp) (by rfl)
          obtain ⟨a7, n7, c7, e7⟩ := (f7 b7).slice
          have R7 := Lib.hid (f7 b7)
          rw [e7] at R7
          subst e7
          have b9 : bb 9 := hd ⟨9, .data⟩ (by simp) (by rfl)
          obtain ⟨a9, n9, c9, e9⟩ := (f9 b9).slice
          have R9 := Lib.hid (f9 b9)
          rw [e9] at R9
          subst e9
          have b10 : bb 10 := hd ⟨10, .data⟩ (by simp) (by rfl)
          obtain ⟨a10, n10, c10, e10⟩ := RowAt.slice (f10 b10)
          have R10 := Lib.hid (f10 b10)
          rw [e10] at R10
          subst e10
          have HK := Lib.hid hK
          clear hK
          go_simp
          exact HK.out _ _ ⟨_, _, _, _, _, _, _, _, _, _, _, _, _, rfl, G, fun h => IntsAt.keep (f0 (down (by decide) h)) (Keep.refl _), fun _ => R1.out.keep (Keep.refl _), fun h => IntsAt.keep (f2 (down (by decide) h)) (Keep.refl _), fun _ => R3.out.keep (Keep.refl _), fun h => IntsAt.keep (f4 (down (by decide) h)) (Keep.refl _), fun _ => R5.out.keep (Keep.refl _), fun h => IntsAt.keep (f6 (down (by decide) h)) (Keep.refl _), fun _ => R7.out.keep (Keep.refl _), fun h => IntsAt.keep (f8 (down (by decide) h)) (Keep.refl _), fun _ => R9.out.keep (Keep.refl _), fun _ => R10.out.keep (Keep.refl _), fun _ => ⟨Or.inr b1, Or.inr b3, Or.inr b5, Or.inr b7, Or.inr b9, Or.inr b10, rfl⟩, up (by decide) f12⟩
        · -- 12: val
          rintro bb aa wp hn hd ⟨v94, v95, v96, v97, v98, v99, v100, v101, v102, v103, v104, v105, v106, rfl, G, f0, f1, f2, f3, f4, f5, f6, f7, f8, f9, f10, f11, f12⟩ K hK
          have HK := Lib.hid hK
          clear hK
          go_simp
          exact HK.out _ _ ⟨_, _, _, _, _, _, _, _, _, _, _, _, _, rfl, G, fun h => IntsAt.keep (f0 (down (by decide) h)) (Keep.refl _), fun h => (f1 (down (by decide) h)).keep (Keep.refl _), fun h => IntsAt.keep (f2 (down (by decide) h)) (Keep.refl _), fun h => (f3 (down (by decide) h)).keep (Keep.refl _), fun h => IntsAt.keep (f4 (down (by decide) h)) (Keep.refl _), fun h => (f5 (down (by decide) h)).keep (Keep.refl _), fun h => IntsAt.keep (f6 (down (by decide) h)) (Keep.refl _), fun h => (f7 (down (by decide) h)).keep (Keep.refl _), fun h => IntsAt.keep (f8 (down (by decide) h)) (Keep.refl _), fun h => (f9 (down (by decide) h)).keep (Keep.refl _), fun h => RowAt.keep (f10 (down (by decide) h)) (Keep.refl _), fun h => ⟨Or.inr (f11 (down (by decide) h)).1, Or.inr (f11 (down (by decide) h)).2.1, Or.inr (f11 (down (by decide) h)).2.2.1, Or.inr (f11 (down (by decide) h)).2.2.2.1, Or.inr (f11 (down (by decide) h)).2.2.2.2.1, Or.inr (f11 (down (by decide) h)).2.2.2.2.2.1, (f11 (down (by decide) h)).2.2.2.2.2.2⟩, fun _ => rfl⟩

end Go.Proofs.Ytmamadgikjkjdaa
