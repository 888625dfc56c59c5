/- works of the statements' package answers true: the chapter's examples. Written by genworks3.py. -/
import Derived.Test.YtaknbjjcgcmdlaaLawFns2
import Derived.Test.YtaknbjjcgcmdlaaSum
namespace Go.Proofs.Ytaknbjjcgcmdlaa
open Go Go.RowKit

theorem intsNew (w : World) (zs : List Int) (t : TypeId) (h : zs.length ≤ 1000) : IntsAt (w.alloc (.cells (zs.map (Value.int .i64)).toArray t)) (.slice (some ⟨w.heap.size, 0, none⟩) zs.length zs.length) zs := by
  refine ⟨w.heap.size, 0, zs.length, zs.length, rfl, rfl, h, fun j hj => ?_⟩
  rw [World.cell?_alloc_at _ _ _ _ (by simp)]
  simp [List.getD, hj]
theorem rowNew (w : World) (l : List (Int × Int)) (t : TypeId) (h : l.length ≤ 1000) : RowAt (w.alloc (.cells (cellsL l).toArray t)) (.slice (some ⟨w.heap.size, 0, none⟩) l.length l.length) l := by
  refine Or.inr ⟨w.heap.size, 0, l.length, l.length, rfl, rfl, by omega, fun j hj => ?_, fun j hj => ?_⟩
  · rw [World.cell?_alloc_at _ _ _ _ (by simp)]
    have := (cellsL_at l j hj).1
    simpa using this
  · rw [World.cell?_alloc_at _ _ _ _ (by simp)]
    have := (cellsL_at l j hj).2
    simpa using this
theorem within_is (B R t q E : Int) (w : World) (H : Hid (withinR B R t = (q, E))) : Calls Try.prog 11 #[.agg #[.int .i64 B, .int .i64 R], .int .i64 t] w (Res (.tuple #[.int .i64 q, .int .i64 E]) w) := by
  have := within_any B R t w
  rw [H.out] at this
  exact this
theorem sum_is (v : Value) (l : List (Int × Int)) (x y E : Int) (w : World) (h : Hid (RowAt w v l)) (H : Hid (sumR l = ((x, y), E))) : Calls Try.prog 7 #[v] w (Res (.tuple #[.agg #[.int .i64 x, .int .i64 y], .int .i64 E]) w) := by
  have := sum_any v l w h.out
  rw [H.out] at this
  exact this
theorem least_is (R : Int) (v : Value) (l : List (Int × Int)) (q E : Int) (w : World) (h : Hid (RowAt w v l)) (H : Hid (leastR R l = (q, E))) : Calls Try.prog 12 #[.int .i64 R, v] w (Res (.tuple #[.int .i64 q, .int .i64 E]) w) := by
  have := least_any R v l w h.out
  rw [H.out] at this
  exact this

set_option maxRecDepth 100000 in
set_option maxHeartbeats 8000000 in
theorem works_yes (w : World) : Calls Try.prog 4 #[] w (Res (.bool true) w) := by
  go_enter Try.func4, Try.ntmps4
  go_upto_region 2 with fail
  have c0 : (w.alloc (.cells #[.int .i64 1000, .int .i64 131072] 30)).cell? ⟨w.heap.size, 0, none⟩ = some (.int .i64 1000) := by simp [go_sem]
  have c1 : (w.alloc (.cells #[.int .i64 1000, .int .i64 131072] 30)).cell? ⟨w.heap.size, 1, none⟩ = some (.int .i64 131072) := by simp [go_sem]
  have K0 := Lib.hid (Keep.alloc (Keep.refl w) (.cells #[.int .i64 1000, .int .i64 131072] 30))
  obtain ⟨W0, hW0⟩ : ∃ W0, w.alloc (.cells #[.int .i64 1000, .int .i64 131072] 30) = W0 := ⟨_, rfl⟩
  rw [hW0] at c0 c1 K0 ⊢
  clear hW0
  refine region_inv (J := fun bb aa wa => ∃ v2 v18 v19 v20 v21 v22 v23 v24 v25 v26 v27 v28 v29 v30 v31 v32 v33 v34 : Value, aa = ⟨#[Value.bool false, Value.pointer (some { block := w.heap.size, off := 0 }), v2, undef, undef, undef, undef, undef, undef, undef, undef, undef, undef, undef, undef, undef, undef, .agg #[.int .i64 1000, .int .i64 131072], v18, v19, v20, v21, v22, v23, v24, v25, v26, v27, v28, v29, v30, v31, v32, v33, v34, undef, undef, undef, undef, undef, undef, undef, undef, undef, undef, undef, undef, undef, undef, undef, undef, undef, undef, undef, undef, undef, undef, undef, undef, undef, undef, undef, undef, undef, undef, undef, undef, undef, undef, undef, undef, undef, undef, undef, undef, undef, undef, undef, undef, undef, undef, undef, undef, undef, undef, undef, undef, undef, undef, undef, undef, undef, undef, undef, undef, undef, undef, undef, undef, undef, undef, undef, undef, undef, undef, undef, undef, undef, undef, undef, undef, undef, undef, undef, undef, undef, undef, undef, undef, undef, undef, undef, undef, undef, undef, undef, undef, undef, undef, undef, undef, undef, undef, undef, undef], []⟩ ∧ Keep W0 wa ∧ (bb 0 → v18 = .agg #[.int .i64 1000, .int .i64 131072]) ∧ (bb 1 → IntsAt wa v19 [0, 600, 0, 400]) ∧ (bb 2 → RowAt wa v20 ([(0, 600), (0, 400)])) ∧ (bb 3 → v21 = .bool true) ∧ (bb 4 → v22 = .bool true) ∧ (bb 5 → v23 = .agg #[.int .i64 1000, .int .i64 131072]) ∧ (bb 6 → IntsAt wa v24 [0, 600, 0, 401]) ∧ (bb 7 → RowAt wa v25 ([(0, 600), (0, 401)])) ∧ (bb 8 → v26 = .bool false) ∧ (bb 9 → v27 = .bool true) ∧ (bb 10 → v28 = .bool true) ∧ (bb 11 → v29 = .bool true) ∧ (bb 12 → v30 = .agg #[.int .i64 1000, .int .i64 131072]) ∧ (bb 13 → IntsAt wa v31 [0, 1000, 800, 100]) ∧ (bb 14 → RowAt wa v32 ([(0, 1000), (800, 100)])) ∧ (bb 15 → v33 = .bool true) ∧ (bb 16 → v34 = .bool true) ∧ (bb 17 → v2 = .bool true)) (by kernel_rfl) (by kernel_rfl) ?donea ?starta ?stepsa
  case donea =>
    rintro bb aa wa hb ⟨v2, v18, v19, v20, v21, v22, v23, v24, v25, v26, v27, v28, v29, v30, v31, v32, v33, v34, rfl, G, f0, f1, f2, f3, f4, f5, f6, f7, f8, f9, f10, f11, f12, f13, f14, f15, f16, f17⟩
    have g0 := f0 (hb 0 (by decide))
    have g1 := f1 (hb 1 (by decide))
    have g2 := f2 (hb 2 (by decide))
    have g3 := f3 (hb 3 (by decide))
    have g4 := f4 (hb 4 (by decide))
    have g5 := f5 (hb 5 (by decide))
    have g6 := f6 (hb 6 (by decide))
    have g7 := f7 (hb 7 (by decide))
    have g8 := f8 (hb 8 (by decide))
    have g9 := f9 (hb 9 (by decide))
    have g10 := f10 (hb 10 (by decide))
    have g11 := f11 (hb 11 (by decide))
    have g12 := f12 (hb 12 (by decide))
    have g13 := f13 (hb 13 (by decide))
    have g14 := f14 (hb 14 (by decide))
    have g15 := f15 (hb 15 (by decide))
    have g16 := f16 (hb 16 (by decide))
    have g17 := f17 (hb 17 (by decide))
    obtain rfl := g0
    obtain rfl := g3
    obtain rfl := g4
    obtain rfl := g5
    obtain rfl := g8
    obtain rfl := g9
    obtain rfl := g10
    obtain rfl := g11
    obtain rfl := g12
    obtain rfl := g15
    obtain rfl := g16
    obtain rfl := g17
    clear f0 f1 f2 f3 f4 f5 f6 f7 f8 f9 f10 f11 f12 f13 f14 f15 f16 f17
    have GA := Lib.hid G
    have c0 := G.some c0
    have c1 := G.some c1
    clear hb g1 g2 g6 g7 g13 g14
    go_upto_region 3 with fail
    refine region_inv (J := fun bb aa wb => ∃ v3 v35 v36 v37 v38 v39 v40 v41 v42 v43 v44 v45 v46 v47 v48 : Value, aa = ⟨#[Value.bool false, Value.pointer (some { block := w.heap.size, off := 0 }), Value.bool true, v3, undef, undef, undef, undef, undef, undef, undef, undef, undef, undef, undef, undef, undef, Value.agg #[Value.int IntKind.i64 1000, Value.int IntKind.i64 131072], Value.agg #[Value.int IntKind.i64 1000, Value.int IntKind.i64 131072], v19, v20, Value.bool true, Value.bool true, Value.agg #[Value.int IntKind.i64 1000, Value.int IntKind.i64 131072], v24, v25, Value.bool false, Value.bool true, Value.bool true, Value.bool true, Value.agg #[Value.int IntKind.i64 1000, Value.int IntKind.i64 131072], v31, v32, Value.bool true, Value.bool true, v35, v36, v37, v38, v39, v40, v41, v42, v43, v44, v45, v46, v47, v48, undef, undef, undef, undef, undef, undef, undef, undef, undef, undef, undef, undef, undef, undef, undef, undef, undef, undef, undef, undef, undef, undef, undef, undef, undef, undef, undef, undef, undef, undef, undef, undef, undef, undef, undef, undef, undef, undef, undef, undef, undef, undef, undef, undef, undef, undef, undef, undef, undef, undef, undef, undef, undef, undef, undef, undef, undef, undef, undef, undef, undef, undef, undef, undef, undef, undef, undef, undef, undef, undef, undef, undef, undef, undef, undef, undef, undef, undef, undef, undef, undef, undef, undef, undef, undef, undef], []⟩ ∧ Keep wa wb ∧ (bb 0 → v35 = .agg #[.int .i64 1000, .int .i64 131072]) ∧ (bb 1 → IntsAt wb v36 [0, 1000, 7, 1]) ∧ (bb 2 → RowAt wb v37 ([(0, 1000), (7, 1)])) ∧ (bb 3 → v38 = .bool true) ∧ (bb 4 → v39 = .bool true) ∧ (bb 5 → v40 = .agg #[.int .i64 1000, .int .i64 131072]) ∧ (bb 6 → IntsAt wb v41 [0, 1000, 8, 1, 8, 1]) ∧ (bb 7 → RowAt wb v42 ([(0, 1000), (8, 1), (8, 1)])) ∧ (bb 8 → v43 = .bool true) ∧ (bb 9 → v44 = .bool true) ∧ (bb 10 → v45 = .bool true) ∧ (bb 11 → v46 = .agg #[.int .i64 1000, .int .i64 131072]) ∧ (bb 12 → v47 = .bool true) ∧ (bb 13 → v48 = .bool true) ∧ (bb 14 → v3 = .bool true)) (by kernel_rfl) (by kernel_rfl) ?doneb ?startb ?stepsb
    case doneb =>
      rintro bb aa wb hb ⟨v3, v35, v36, v37, v38, v39, v40, v41, v42, v43, v44, v45, v46, v47, v48, rfl, G, f0, f1, f2, f3, f4, f5, f6, f7, f8, f9, f10, f11, f12, f13, f14⟩
      have g0 := f0 (hb 0 (by decide))
      have g1 := f1 (hb 1 (by decide))
      have g2 := f2 (hb 2 (by decide))
      have g3 := f3 (hb 3 (by decide))
      have g4 := f4 (hb 4 (by decide))
      have g5 := f5 (hb 5 (by decide))
      have g6 := f6 (hb 6 (by decide))
      have g7 := f7 (hb 7 (by decide))
      have g8 := f8 (hb 8 (by decide))
      have g9 := f9 (hb 9 (by decide))
      have g10 := f10 (hb 10 (by decide))
      have g11 := f11 (hb 11 (by decide))
      have g12 := f12 (hb 12 (by decide))
      have g13 := f13 (hb 13 (by decide))
      have g14 := f14 (hb 14 (by decide))
      obtain rfl := g0
      obtain rfl := g3
      obtain rfl := g4
      obtain rfl := g5
      obtain rfl := g8
      obtain rfl := g9
      obtain rfl := g10
      obtain rfl := g11
      obtain rfl := g12
      obtain rfl := g13
      obtain rfl := g14
      clear f0 f1 f2 f3 f4 f5 f6 f7 f8 f9 f10 f11 f12 f13 f14
      have KK := Lib.hid (K0.out.trans (GA.out.trans G))
      have c0 := G.some c0
      have c1 := G.some c1
      clear hb GA K0 g1 g2 g6 g7
      have F0 : Hid (withinR 1000 131072 0 = (1000, 0)) := Lib.hid (by decide)
      have F1 : Hid (withinR 1000 131072 15 = (1001, 0)) := Lib.hid (by decide)
      have F2 : Hid (withinR 1000 131072 16 = (1002, 0)) := Lib.hid (by decide)
      have F3 : Hid (sumR [((1000 : Int), (131072 : Int)), (24, 1048576)] = ((1024, 1179648), 0)) := Lib.hid (by decide)
      have hrow : ∀ w' : World, RowAt (w'.alloc (.cells #[.int .i64 1000, .int .i64 131072, .int .i64 24, .int .i64 1048576] 30)) (.slice (some ⟨w'.heap.size, 0, none⟩) 2 2) [((1000 : Int), (131072 : Int)), (24, 1048576)] := fun w' => rowNew w' [((1000 : Int), (131072 : Int)), (24, 1048576)] _ (by decide)
      have hints : ∀ w' : World, IntsAt (w'.alloc (.cells #[.int .i64 0, .int .i64 100, .int .i64 80, .int .i64 100, .int .i64 80, .int .i64 100] 3)) (.slice (some ⟨w'.heap.size, 0, none⟩) 6 6) [0, 100, 80, 100, 80, 100] := fun w' => intsNew w' [0, 100, 80, 100, 80, 100] _ (by decide)
      have hints2 : ∀ (w' : World) (o : Obj), IntsAt ((w'.alloc o).alloc (.cells #[.int .i64 0, .int .i64 100, .int .i64 80, .int .i64 100, .int .i64 80, .int .i64 100] 3)) (.slice (some ⟨w'.heap.size + 1, 0, none⟩) 6 6) [0, 100, 80, 100, 80, 100] := fun w' o => by have := hints (w'.alloc o); rwa [World.size_alloc] at this
      have hs0 : ∀ (w' : World) (o : Obj), ((w'.alloc (.cells #[.int .i64 1024, .int .i64 1179648] 30)).alloc o).cell? ⟨w'.heap.size, 0, none⟩ = some (.int .i64 1024) := fun w' o => by simp [go_sem]
      have hs1 : ∀ (w' : World) (o : Obj), ((w'.alloc (.cells #[.int .i64 1024, .int .i64 1179648] 30)).alloc o).cell? ⟨w'.heap.size, 1, none⟩ = some (.int .i64 1179648) := fun w' o => by simp [go_sem]
      have F4 : Hid (pairsL [0, 100, 80, 100, 80, 100] = [(0, 100), (80, 100), (80, 100)]) := Lib.hid (by decide)
      have F5 : Hid (leastR 131072 [(0, 100), (80, 100), (80, 100)] = (290, 0)) := Lib.hid (by decide)
      have F6 : Hid (leastR 131072 [] = (1, 0)) := Lib.hid (by decide)
      have hnil : ∀ w' : World, RowAt w' (.slice none 0 0) [] := fun w' => Or.inl ⟨rfl, rfl⟩
      go_wp2_with (first | (go_at_call 11; ((with_reducible refine (within_is 1000 131072 0 1000 0 _ F0).mono ?_); rintro _ w1 ⟨rfl, hk⟩; have KK := Lib.hid (by first | exact KK.out.trans hk | exact (KK.out.alloc _).trans hk | exact ((KK.out.alloc _).alloc _).trans hk | exact (((KK.out.alloc _).alloc _).alloc _).trans hk); have c0 := hk.some (by first | exact c0 | exact cell_alloc_old _ c0 | exact cell_alloc_old _ (cell_alloc_old _ c0)); have c1 := hk.some (by first | exact c1 | exact cell_alloc_old _ c1 | exact cell_alloc_old _ (cell_alloc_old _ c1)))) | (go_at_call 11; ((with_reducible refine (within_is 1000 131072 15 1001 0 _ F1).mono ?_); rintro _ w1 ⟨rfl, hk⟩; have KK := Lib.hid (by first | exact KK.out.trans hk | exact (KK.out.alloc _).trans hk | exact ((KK.out.alloc _).alloc _).trans hk | exact (((KK.out.alloc _).alloc _).alloc _).trans hk); have c0 := hk.some (by first | exact c0 | exact cell_alloc_old _ c0 | exact cell_alloc_old _ (cell_alloc_old _ c0)); have c1 := hk.some (by first | exact c1 | exact cell_alloc_old _ c1 | exact cell_alloc_old _ (cell_alloc_old _ c1)))) | (go_at_call 11; ((with_reducible refine (within_is 1000 131072 16 1002 0 _ F2).mono ?_); rintro _ w1 ⟨rfl, hk⟩; have KK := Lib.hid (by first | exact KK.out.trans hk | exact (KK.out.alloc _).trans hk | exact ((KK.out.alloc _).alloc _).trans hk | exact (((KK.out.alloc _).alloc _).alloc _).trans hk); have c0 := hk.some (by first | exact c0 | exact cell_alloc_old _ c0 | exact cell_alloc_old _ (cell_alloc_old _ c0)); have c1 := hk.some (by first | exact c1 | exact cell_alloc_old _ c1 | exact cell_alloc_old _ (cell_alloc_old _ c1)))) | (go_at_call 7; ((with_reducible refine (sum_is _ [((1000 : Int), (131072 : Int)), (24, 1048576)] 1024 1179648 0 _ (Lib.hid (hrow _)) F3).mono ?_); rintro _ w1 ⟨rfl, hk⟩; have KK := Lib.hid (by first | exact KK.out.trans hk | exact (KK.out.alloc _).trans hk | exact ((KK.out.alloc _).alloc _).trans hk | exact (((KK.out.alloc _).alloc _).alloc _).trans hk); have c0 := hk.some (by first | exact c0 | exact cell_alloc_old _ c0 | exact cell_alloc_old _ (cell_alloc_old _ c0)); have c1 := hk.some (by first | exact c1 | exact cell_alloc_old _ c1 | exact cell_alloc_old _ (cell_alloc_old _ c1)))) | (go_at_call 9; ((with_reducible refine (trace_is _ [0, 100, 80, 100, 80, 100] [(0, 100), (80, 100), (80, 100)] _ (Lib.hid (hints2 _ _)) F4).mono ?_); rintro _ w1 ⟨v1, rfl, hr, hk, hf⟩; have s0 := hk.some (hs0 _ _); have s1 := hk.some (hs1 _ _); have KK := Lib.hid (by first | exact KK.out.trans hk | exact (KK.out.alloc _).trans hk | exact ((KK.out.alloc _).alloc _).trans hk | exact (((KK.out.alloc _).alloc _).alloc _).trans hk); have c0 := hk.some (by first | exact c0 | exact cell_alloc_old _ c0 | exact cell_alloc_old _ (cell_alloc_old _ c0)); have c1 := hk.some (by first | exact c1 | exact cell_alloc_old _ c1 | exact cell_alloc_old _ (cell_alloc_old _ c1)))) | (go_at_call 12; ((with_reducible refine (least_is 131072 _ [] 1 0 _ (Lib.hid (hnil _)) F6).mono ?_); rintro _ w1 ⟨rfl, hk⟩; have s0 := hk.some s0; have s1 := hk.some s1; have KK := Lib.hid (by first | exact KK.out.trans hk | exact (KK.out.alloc _).trans hk | exact ((KK.out.alloc _).alloc _).trans hk | exact (((KK.out.alloc _).alloc _).alloc _).trans hk); have c0 := hk.some (by first | exact c0 | exact cell_alloc_old _ c0 | exact cell_alloc_old _ (cell_alloc_old _ c0)); have c1 := hk.some (by first | exact c1 | exact cell_alloc_old _ c1 | exact cell_alloc_old _ (cell_alloc_old _ c1)))) | (go_at_call 12; ((with_reducible refine (least_is 131072 _ [(0, 100), (80, 100), (80, 100)] 290 0 _ (Lib.hid hr) F5).mono ?_); rintro _ w1 ⟨rfl, hk⟩; have s0 := hk.some s0; have s1 := hk.some s1; have KK := Lib.hid (by first | exact KK.out.trans hk | exact (KK.out.alloc _).trans hk | exact ((KK.out.alloc _).alloc _).trans hk | exact (((KK.out.alloc _).alloc _).alloc _).trans hk); have c0 := hk.some (by first | exact c0 | exact cell_alloc_old _ c0 | exact cell_alloc_old _ (cell_alloc_old _ c0)); have c1 := hk.some (by first | exact c1 | exact cell_alloc_old _ c1 | exact cell_alloc_old _ (cell_alloc_old _ c1)))))
      go_ret
      exact ⟨rfl, by first | exact KK.out | exact KK.out.alloc _ | exact (KK.out.alloc _).alloc _⟩
    case startb => exact ⟨_, _, _, _, _, _, _, _, _, _, _, _, _, _, _, rfl, Keep.drew (Keep.refl _), fun h => h.elim, fun h => h.elim, fun h => h.elim, fun h => h.elim, fun h => h.elim, fun h => h.elim, fun h => h.elim, fun h => h.elim, fun h => h.elim, fun h => h.elim, fun h => h.elim, fun h => h.elim, fun h => h.elim, fun h => h.elim, fun h => h.elim⟩
    case stepsb =>
      refine StepsFrom.cons (k := 0) ?_ (StepsFrom.cons (k := 1) ?_ (StepsFrom.cons (k := 2) ?_ (StepsFrom.cons (k := 3) ?_ (StepsFrom.cons (k := 4) ?_ (StepsFrom.cons (k := 5) ?_ (StepsFrom.cons (k := 6) ?_ (StepsFrom.cons (k := 7) ?_ (StepsFrom.cons (k := 8) ?_ (StepsFrom.cons (k := 9) ?_ (StepsFrom.cons (k := 10) ?_ (StepsFrom.cons (k := 11) ?_ (StepsFrom.cons (k := 12) ?_ (StepsFrom.cons (k := 13) ?_ (StepsFrom.cons (k := 14) ?_ (StepsFrom.nil)))))))))))))))
      · -- 0: val
        rintro bb aa wb hn hd ⟨v3, v35, v36, v37, v38, v39, v40, v41, v42, v43, v44, v45, v46, v47, v48, rfl, G, f0, f1, f2, f3, f4, f5, f6, f7, f8, f9, f10, f11, f12, f13, f14⟩ K hK
        have k0 := G.some c0
        have k1 := G.some c1
        have HK := Lib.hid hK
        clear hK
        go_simp
        exact HK.out _ _ ⟨_, _, _, _, _, _, _, _, _, _, _, _, _, _, _, rfl, G, fun _ => rfl, fun h => IntsAt.keep (f1 (down (by decide) h)) (Keep.refl _), fun h => (f2 (down (by decide) h)).keep (Keep.refl _), up (by decide) f3, up (by decide) f4, up (by decide) f5, fun h => IntsAt.keep (f6 (down (by decide) h)) (Keep.refl _), fun h => (f7 (down (by decide) h)).keep (Keep.refl _), up (by decide) f8, up (by decide) f9, up (by decide) f10, up (by decide) f11, up (by decide) f12, up (by decide) f13, up (by decide) f14⟩
      · -- 1: fact
        rintro bb aa wb hn hd ⟨v3, v35, v36, v37, v38, v39, v40, v41, v42, v43, v44, v45, v46, v47, v48, rfl, G, f0, f1, f2, f3, f4, f5, f6, f7, f8, f9, f10, f11, f12, f13, f14⟩ K hK
        have HK := Lib.hid hK
        clear hK
        go_simp
        exact HK.out _ _ ⟨_, _, _, _, _, _, _, _, _, _, _, _, _, _, _, rfl, (G.trans (Keep.alloc (Keep.refl _) _)), up (by decide) f0, fun _ => intsNew _ [0, 1000, 7, 1] _ (by decide), fun h => (f2 (down (by decide) h)).keep (Keep.alloc (Keep.refl _) _), up (by decide) f3, up (by decide) f4, up (by decide) f5, fun h => IntsAt.keep (f6 (down (by decide) h)) (Keep.alloc (Keep.refl _) _), fun h => (f7 (down (by decide) h)).keep (Keep.alloc (Keep.refl _) _), up (by decide) f8, up (by decide) f9, up (by decide) f10, up (by decide) f11, up (by decide) f12, up (by decide) f13, up (by decide) f14⟩
      · -- 2: row
        rintro bb aa wb hn hd ⟨v3, v35, v36, v37, v38, v39, v40, v41, v42, v43, v44, v45, v46, v47, v48, rfl, G, f0, f1, f2, f3, f4, f5, f6, f7, f8, f9, f10, f11, f12, f13, f14⟩ K hK
        have b1 : bb 1 := hd ⟨1, .data⟩ (by simp) (by rfl)
        have HK := Lib.hid hK
        clear hK
        go_wp2_with (go_at_call 9; ((with_reducible refine (trace_is _ [0, 1000, 7, 1] [(0, 1000), (7, 1)] _ (Lib.hid (f1 b1)) (Lib.hid (by decide))).mono ?_); rintro _ w1 ⟨v1, rfl, hr, hk, hf⟩))
        exact HK.out _ _ ⟨_, _, _, _, _, _, _, _, _, _, _, _, _, _, _, rfl, (G.trans hk), up (by decide) f0, fun h => IntsAt.keep (f1 (down (by decide) h)) hk, fun _ => hr, up (by decide) f3, up (by decide) f4, up (by decide) f5, fun h => IntsAt.keep (f6 (down (by decide) h)) hk, fun h => (f7 (down (by decide) h)).keep hk, up (by decide) f8, up (by decide) f9, up (by decide) f10, up (by decide) f11, up (by decide) f12, up (by decide) f13, up (by decide) f14⟩
      · -- 3: val
        rintro bb aa wb hn hd ⟨v3, v35, v36, v37, v38, v39, v40, v41, v42, v43, v44, v45, v46, v47, v48, rfl, G, f0, f1, f2, f3, f4, f5, f6, f7, f8, f9, f10, f11, f12, f13, f14⟩ K hK
        have b0 : bb 0 := hd ⟨0, .data⟩ (by simp) (by rfl)
        obtain rfl := f0 b0
        have b2 : bb 2 := hd ⟨2, .data⟩ (by simp) (by rfl)
        have HK := Lib.hid hK
        clear hK
        go_wp2_with (go_at_call 10; ((with_reducible refine (lawFirst_any 1000 131072 _ [(0, 1000), (7, 1)] 1 _ (Lib.hid (f2 b2)) true (Lib.hid (by decide))).mono ?_); rintro _ w1 ⟨rfl, hk⟩))
        exact HK.out _ _ ⟨_, _, _, _, _, _, _, _, _, _, _, _, _, _, _, rfl, (G.trans hk), fun _ => rfl, fun h => IntsAt.keep (f1 (down (by decide) h)) hk, fun h => (f2 (down (by decide) h)).keep hk, fun _ => rfl, up (by decide) f4, up (by decide) f5, fun h => IntsAt.keep (f6 (down (by decide) h)) hk, fun h => (f7 (down (by decide) h)).keep hk, up (by decide) f8, up (by decide) f9, up (by decide) f10, up (by decide) f11, up (by decide) f12, up (by decide) f13, up (by decide) f14⟩
      · -- 4: val
        rintro bb aa wb hn hd ⟨v3, v35, v36, v37, v38, v39, v40, v41, v42, v43, v44, v45, v46, v47, v48, rfl, G, f0, f1, f2, f3, f4, f5, f6, f7, f8, f9, f10, f11, f12, f13, f14⟩ K hK
        have b3 : bb 3 := hd ⟨3, .data⟩ (by simp) (by rfl)
        obtain rfl := f3 b3
        have HK := Lib.hid hK
        clear hK
        go_simp
        exact HK.out _ _ ⟨_, _, _, _, _, _, _, _, _, _, _, _, _, _, _, rfl, G, up (by decide) f0, fun h => IntsAt.keep (f1 (down (by decide) h)) (Keep.refl _), fun h => (f2 (down (by decide) h)).keep (Keep.refl _), fun _ => rfl, fun _ => rfl, up (by decide) f5, fun h => IntsAt.keep (f6 (down (by decide) h)) (Keep.refl _), fun h => (f7 (down (by decide) h)).keep (Keep.refl _), up (by decide) f8, up (by decide) f9, up (by decide) f10, up (by decide) f11, up (by decide) f12, up (by decide) f13, up (by decide) f14⟩
      · -- 5: val
        rintro bb aa wb hn hd ⟨v3, v35, v36, v37, v38, v39, v40, v41, v42, v43, v44, v45, v46, v47, v48, rfl, G, f0, f1, f2, f3, f4, f5, f6, f7, f8, f9, f10, f11, f12, f13, f14⟩ K hK
        have b4 : bb 4 := hd ⟨4, .guard⟩ (by simp) (by rfl)
        obtain rfl := f4 b4
        have k0 := G.some c0
        have k1 := G.some c1
        have HK := Lib.hid hK
        clear hK
        go_simp
        exact HK.out _ _ ⟨_, _, _, _, _, _, _, _, _, _, _, _, _, _, _, rfl, G, up (by decide) f0, fun h => IntsAt.keep (f1 (down (by decide) h)) (Keep.refl _), fun h => (f2 (down (by decide) h)).keep (Keep.refl _), up (by decide) f3, fun _ => rfl, fun _ => rfl, fun h => IntsAt.keep (f6 (down (by decide) h)) (Keep.refl _), fun h => (f7 (down (by decide) h)).keep (Keep.refl _), up (by decide) f8, up (by decide) f9, up (by decide) f10, up (by decide) f11, up (by decide) f12, up (by decide) f13, up (by decide) f14⟩
      · -- 6: fact
        rintro bb aa wb hn hd ⟨v3, v35, v36, v37, v38, v39, v40, v41, v42, v43, v44, v45, v46, v47, v48, rfl, G, f0, f1, f2, f3, f4, f5, f6, f7, f8, f9, f10, f11, f12, f13, f14⟩ K hK
        have b4 : bb 4 := hd ⟨4, .guard⟩ (by simp) (by rfl)
        obtain rfl := f4 b4
        have HK := Lib.hid hK
        clear hK
        go_simp
        exact HK.out _ _ ⟨_, _, _, _, _, _, _, _, _, _, _, _, _, _, _, rfl, (G.trans (Keep.alloc (Keep.refl _) _)), up (by decide) f0, fun h => IntsAt.keep (f1 (down (by decide) h)) (Keep.alloc (Keep.refl _) _), fun h => (f2 (down (by decide) h)).keep (Keep.alloc (Keep.refl _) _), up (by decide) f3, fun _ => rfl, up (by decide) f5, fun _ => intsNew _ [0, 1000, 8, 1, 8, 1] _ (by decide), fun h => (f7 (down (by decide) h)).keep (Keep.alloc (Keep.refl _) _), up (by decide) f8, up (by decide) f9, up (by decide) f10, up (by decide) f11, up (by decide) f12, up (by decide) f13, up (by decide) f14⟩
      · -- 7: row
        rintro bb aa wb hn hd ⟨v3, v35, v36, v37, v38, v39, v40, v41, v42, v43, v44, v45, v46, v47, v48, rfl, G, f0, f1, f2, f3, f4, f5, f6, f7, f8, f9, f10, f11, f12, f13, f14⟩ K hK
        have b6 : bb 6 := hd ⟨6, .data⟩ (by simp) (by rfl)
        have b4 : bb 4 := hd ⟨4, .guard⟩ (by simp) (by rfl)
        obtain rfl := f4 b4
        have HK := Lib.hid hK
        clear hK
        go_wp2_with (go_at_call 9; ((with_reducible refine (trace_is _ [0, 1000, 8, 1, 8, 1] [(0, 1000), (8, 1), (8, 1)] _ (Lib.hid (f6 b6)) (Lib.hid (by decide))).mono ?_); rintro _ w1 ⟨v1, rfl, hr, hk, hf⟩))
        exact HK.out _ _ ⟨_, _, _, _, _, _, _, _, _, _, _, _, _, _, _, rfl, (G.trans hk), up (by decide) f0, fun h => IntsAt.keep (f1 (down (by decide) h)) hk, fun h => (f2 (down (by decide) h)).keep hk, up (by decide) f3, fun _ => rfl, up (by decide) f5, fun h => IntsAt.keep (f6 (down (by decide) h)) hk, fun _ => hr, up (by decide) f8, up (by decide) f9, up (by decide) f10, up (by decide) f11, up (by decide) f12, up (by decide) f13, up (by decide) f14⟩
      · -- 8: val
        rintro bb aa wb hn hd ⟨v3, v35, v36, v37, v38, v39, v40, v41, v42, v43, v44, v45, v46, v47, v48, rfl, G, f0, f1, f2, f3, f4, f5, f6, f7, f8, f9, f10, f11, f12, f13, f14⟩ K hK
        have b5 : bb 5 := hd ⟨5, .data⟩ (by simp) (by rfl)
        obtain rfl := f5 b5
        have b7 : bb 7 := hd ⟨7, .data⟩ (by simp) (by rfl)
        have b4 : bb 4 := hd ⟨4, .guard⟩ (by simp) (by rfl)
        obtain rfl := f4 b4
        have HK := Lib.hid hK
        clear hK
        go_wp2_with (go_at_call 10; ((with_reducible refine (lawFirst_any 1000 131072 _ [(0, 1000), (8, 1), (8, 1)] 2 _ (Lib.hid (f7 b7)) true (Lib.hid (by decide))).mono ?_); rintro _ w1 ⟨rfl, hk⟩))
        exact HK.out _ _ ⟨_, _, _, _, _, _, _, _, _, _, _, _, _, _, _, rfl, (G.trans hk), up (by decide) f0, fun h => IntsAt.keep (f1 (down (by decide) h)) hk, fun h => (f2 (down (by decide) h)).keep hk, up (by decide) f3, fun _ => rfl, fun _ => rfl, fun h => IntsAt.keep (f6 (down (by decide) h)) hk, fun h => (f7 (down (by decide) h)).keep hk, fun _ => rfl, up (by decide) f9, up (by decide) f10, up (by decide) f11, up (by decide) f12, up (by decide) f13, up (by decide) f14⟩
      · -- 9: val
        rintro bb aa wb hn hd ⟨v3, v35, v36, v37, v38, v39, v40, v41, v42, v43, v44, v45, v46, v47, v48, rfl, G, f0, f1, f2, f3, f4, f5, f6, f7, f8, f9, f10, f11, f12, f13, f14⟩ K hK
        have b4 : bb 4 := hd ⟨4, .data⟩ (by simp) (by rfl)
        obtain rfl := f4 b4
        have b8 : bb 8 := hd ⟨8, .data⟩ (by simp) (by rfl)
        obtain rfl := f8 b8
        have HK := Lib.hid hK
        clear hK
        go_simp
        exact HK.out _ _ ⟨_, _, _, _, _, _, _, _, _, _, _, _, _, _, _, rfl, G, up (by decide) f0, fun h => IntsAt.keep (f1 (down (by decide) h)) (Keep.refl _), fun h => (f2 (down (by decide) h)).keep (Keep.refl _), up (by decide) f3, fun _ => rfl, up (by decide) f5, fun h => IntsAt.keep (f6 (down (by decide) h)) (Keep.refl _), fun h => (f7 (down (by decide) h)).keep (Keep.refl _), fun _ => rfl, fun _ => rfl, up (by decide) f10, up (by decide) f11, up (by decide) f12, up (by decide) f13, up (by decide) f14⟩
      · -- 10: val
        rintro bb aa wb hn hd ⟨v3, v35, v36, v37, v38, v39, v40, v41, v42, v43, v44, v45, v46, v47, v48, rfl, G, f0, f1, f2, f3, f4, f5, f6, f7, f8, f9, f10, f11, f12, f13, f14⟩ K hK
        have b9 : bb 9 := hd ⟨9, .data⟩ (by simp) (by rfl)
        obtain rfl := f9 b9
        have HK := Lib.hid hK
        clear hK
        go_simp
        exact HK.out _ _ ⟨_, _, _, _, _, _, _, _, _, _, _, _, _, _, _, rfl, G, up (by decide) f0, fun h => IntsAt.keep (f1 (down (by decide) h)) (Keep.refl _), fun h => (f2 (down (by decide) h)).keep (Keep.refl _), up (by decide) f3, up (by decide) f4, up (by decide) f5, fun h => IntsAt.keep (f6 (down (by decide) h)) (Keep.refl _), fun h => (f7 (down (by decide) h)).keep (Keep.refl _), up (by decide) f8, fun _ => rfl, fun _ => rfl, up (by decide) f11, up (by decide) f12, up (by decide) f13, up (by decide) f14⟩
      · -- 11: val
        rintro bb aa wb hn hd ⟨v3, v35, v36, v37, v38, v39, v40, v41, v42, v43, v44, v45, v46, v47, v48, rfl, G, f0, f1, f2, f3, f4, f5, f6, f7, f8, f9, f10, f11, f12, f13, f14⟩ K hK
        have b10 : bb 10 := hd ⟨10, .guard⟩ (by simp) (by rfl)
        obtain rfl := f10 b10
        have k0 := G.some c0
        have k1 := G.some c1
        have HK := Lib.hid hK
        clear hK
        go_simp
        exact HK.out _ _ ⟨_, _, _, _, _, _, _, _, _, _, _, _, _, _, _, rfl, G, up (by decide) f0, fun h => IntsAt.keep (f1 (down (by decide) h)) (Keep.refl _), fun h => (f2 (down (by decide) h)).keep (Keep.refl _), up (by decide) f3, up (by decide) f4, up (by decide) f5, fun h => IntsAt.keep (f6 (down (by decide) h)) (Keep.refl _), fun h => (f7 (down (by decide) h)).keep (Keep.refl _), up (by decide) f8, up (by decide) f9, fun _ => rfl, fun _ => rfl, up (by decide) f12, up (by decide) f13, up (by decide) f14⟩
      · -- 12: val
        rintro bb aa wb hn hd ⟨v3, v35, v36, v37, v38, v39, v40, v41, v42, v43, v44, v45, v46, v47, v48, rfl, G, f0, f1, f2, f3, f4, f5, f6, f7, f8, f9, f10, f11, f12, f13, f14⟩ K hK
        have b11 : bb 11 := hd ⟨11, .data⟩ (by simp) (by rfl)
        obtain rfl := f11 b11
        have b10 : bb 10 := hd ⟨10, .guard⟩ (by simp) (by rfl)
        obtain rfl := f10 b10
        have hnil : RowAt wb (.slice none 0 0) [] := Or.inl ⟨rfl, rfl⟩
        have HK := Lib.hid hK
        clear hK
        go_wp2_with (go_at_call 10; ((with_reducible refine (lawFirst_any 1000 131072 _ [] (-1) _ (Lib.hid hnil) true (Lib.hid (by decide))).mono ?_); rintro _ w1 ⟨rfl, hk⟩))
        exact HK.out _ _ ⟨_, _, _, _, _, _, _, _, _, _, _, _, _, _, _, rfl, (G.trans hk), up (by decide) f0, fun h => IntsAt.keep (f1 (down (by decide) h)) hk, fun h => (f2 (down (by decide) h)).keep hk, up (by decide) f3, up (by decide) f4, up (by decide) f5, fun h => IntsAt.keep (f6 (down (by decide) h)) hk, fun h => (f7 (down (by decide) h)).keep hk, up (by decide) f8, up (by decide) f9, fun _ => rfl, fun _ => rfl, fun _ => rfl, up (by decide) f13, up (by decide) f14⟩
      · -- 13: val
        rintro bb aa wb hn hd ⟨v3, v35, v36, v37, v38, v39, v40, v41, v42, v43, v44, v45, v46, v47, v48, rfl, G, f0, f1, f2, f3, f4, f5, f6, f7, f8, f9, f10, f11, f12, f13, f14⟩ K hK
        have b10 : bb 10 := hd ⟨10, .data⟩ (by simp) (by rfl)
        obtain rfl := f10 b10
        have b12 : bb 12 := hd ⟨12, .data⟩ (by simp) (by rfl)
        obtain rfl := f12 b12
        have HK := Lib.hid hK
        clear hK
        go_simp
        exact HK.out _ _ ⟨_, _, _, _, _, _, _, _, _, _, _, _, _, _, _, rfl, G, up (by decide) f0, fun h => IntsAt.keep (f1 (down (by decide) h)) (Keep.refl _), fun h => (f2 (down (by decide) h)).keep (Keep.refl _), up (by decide) f3, up (by decide) f4, up (by decide) f5, fun h => IntsAt.keep (f6 (down (by decide) h)) (Keep.refl _), fun h => (f7 (down (by decide) h)).keep (Keep.refl _), up (by decide) f8, up (by decide) f9, fun _ => rfl, up (by decide) f11, fun _ => rfl, fun _ => rfl, up (by decide) f14⟩
      · -- 14: val
        rintro bb aa wb hn hd ⟨v3, v35, v36, v37, v38, v39, v40, v41, v42, v43, v44, v45, v46, v47, v48, rfl, G, f0, f1, f2, f3, f4, f5, f6, f7, f8, f9, f10, f11, f12, f13, f14⟩ K hK
        have b13 : bb 13 := hd ⟨13, .data⟩ (by simp) (by rfl)
        obtain rfl := f13 b13
        have HK := Lib.hid hK
        clear hK
        go_simp
        exact HK.out _ _ ⟨_, _, _, _, _, _, _, _, _, _, _, _, _, _, _, rfl, G, up (by decide) f0, fun h => IntsAt.keep (f1 (down (by decide) h)) (Keep.refl _), fun h => (f2 (down (by decide) h)).keep (Keep.refl _), up (by decide) f3, up (by decide) f4, up (by decide) f5, fun h => IntsAt.keep (f6 (down (by decide) h)) (Keep.refl _), fun h => (f7 (down (by decide) h)).keep (Keep.refl _), up (by decide) f8, up (by decide) f9, up (by decide) f10, up (by decide) f11, up (by decide) f12, fun _ => rfl, fun _ => rfl⟩
  case starta => exact ⟨_, _, _, _, _, _, _, _, _, _, _, _, _, _, _, _, _, _, rfl, Keep.drew (Keep.refl _), fun h => h.elim, fun h => h.elim, fun h => h.elim, fun h => h.elim, fun h => h.elim, fun h => h.elim, fun h => h.elim, fun h => h.elim, fun h => h.elim, fun h => h.elim, fun h => h.elim, fun h => h.elim, fun h => h.elim, fun h => h.elim, fun h => h.elim, fun h => h.elim, fun h => h.elim, fun h => h.elim⟩
  case stepsa =>
    refine StepsFrom.cons (k := 0) ?_ (StepsFrom.cons (k := 1) ?_ (StepsFrom.cons (k := 2) ?_ (StepsFrom.cons (k := 3) ?_ (StepsFrom.cons (k := 4) ?_ (StepsFrom.cons (k := 5) ?_ (StepsFrom.cons (k := 6) ?_ (StepsFrom.cons (k := 7) ?_ (StepsFrom.cons (k := 8) ?_ (StepsFrom.cons (k := 9) ?_ (StepsFrom.cons (k := 10) ?_ (StepsFrom.cons (k := 11) ?_ (StepsFrom.cons (k := 12) ?_ (StepsFrom.cons (k := 13) ?_ (StepsFrom.cons (k := 14) ?_ (StepsFrom.cons (k := 15) ?_ (StepsFrom.cons (k := 16) ?_ (StepsFrom.cons (k := 17) ?_ (StepsFrom.nil))))))))))))))))))
    · -- 0: val
      rintro bb aa wa hn hd ⟨v2, v18, v19, v20, v21, v22, v23, v24, v25, v26, v27, v28, v29, v30, v31, v32, v33, v34, rfl, G, f0, f1, f2, f3, f4, f5, f6, f7, f8, f9, f10, f11, f12, f13, f14, f15, f16, f17⟩ K hK
      have k0 := G.some c0
      have k1 := G.some c1
      have HK := Lib.hid hK
      clear hK
      go_simp
      exact HK.out _ _ ⟨_, _, _, _, _, _, _, _, _, _, _, _, _, _, _, _, _, _, rfl, G, fun _ => rfl, fun h => IntsAt.keep (f1 (down (by decide) h)) (Keep.refl _), fun h => (f2 (down (by decide) h)).keep (Keep.refl _), up (by decide) f3, up (by decide) f4, up (by decide) f5, fun h => IntsAt.keep (f6 (down (by decide) h)) (Keep.refl _), fun h => (f7 (down (by decide) h)).keep (Keep.refl _), up (by decide) f8, up (by decide) f9, up (by decide) f10, up (by decide) f11, up (by decide) f12, fun h => IntsAt.keep (f13 (down (by decide) h)) (Keep.refl _), fun h => (f14 (down (by decide) h)).keep (Keep.refl _), up (by decide) f15, up (by decide) f16, up (by decide) f17⟩
    · -- 1: fact
      rintro bb aa wa hn hd ⟨v2, v18, v19, v20, v21, v22, v23, v24, v25, v26, v27, v28, v29, v30, v31, v32, v33, v34, rfl, G, f0, f1, f2, f3, f4, f5, f6, f7, f8, f9, f10, f11, f12, f13, f14, f15, f16, f17⟩ K hK
      have HK := Lib.hid hK
      clear hK
      go_simp
      exact HK.out _ _ ⟨_, _, _, _, _, _, _, _, _, _, _, _, _, _, _, _, _, _, rfl, (G.trans (Keep.alloc (Keep.refl _) _)), up (by decide) f0, fun _ => intsNew _ [0, 600, 0, 400] _ (by decide), fun h => (f2 (down (by decide) h)).keep (Keep.alloc (Keep.refl _) _), up (by decide) f3, up (by decide) f4, up (by decide) f5, fun h => IntsAt.keep (f6 (down (by decide) h)) (Keep.alloc (Keep.refl _) _), fun h => (f7 (down (by decide) h)).keep (Keep.alloc (Keep.refl _) _), up (by decide) f8, up (by decide) f9, up (by decide) f10, up (by decide) f11, up (by decide) f12, fun h => IntsAt.keep (f13 (down (by decide) h)) (Keep.alloc (Keep.refl _) _), fun h => (f14 (down (by decide) h)).keep (Keep.alloc (Keep.refl _) _), up (by decide) f15, up (by decide) f16, up (by decide) f17⟩
    · -- 2: row
      rintro bb aa wa hn hd ⟨v2, v18, v19, v20, v21, v22, v23, v24, v25, v26, v27, v28, v29, v30, v31, v32, v33, v34, rfl, G, f0, f1, f2, f3, f4, f5, f6, f7, f8, f9, f10, f11, f12, f13, f14, f15, f16, f17⟩ K hK
      have b1 : bb 1 := hd ⟨1, .data⟩ (by simp) (by rfl)
      have HK := Lib.hid hK
      clear hK
      go_wp2_with (go_at_call 9; ((with_reducible refine (trace_is _ [0, 600, 0, 400] [(0, 600), (0, 400)] _ (Lib.hid (f1 b1)) (Lib.hid (by decide))).mono ?_); rintro _ w1 ⟨v1, rfl, hr, hk, hf⟩))
      exact HK.out _ _ ⟨_, _, _, _, _, _, _, _, _, _, _, _, _, _, _, _, _, _, rfl, (G.trans hk), up (by decide) f0, fun h => IntsAt.keep (f1 (down (by decide) h)) hk, fun _ => hr, up (by decide) f3, up (by decide) f4, up (by decide) f5, fun h => IntsAt.keep (f6 (down (by decide) h)) hk, fun h => (f7 (down (by decide) h)).keep hk, up (by decide) f8, up (by decide) f9, up (by decide) f10, up (by decide) f11, up (by decide) f12, fun h => IntsAt.keep (f13 (down (by decide) h)) hk, fun h => (f14 (down (by decide) h)).keep hk, up (by decide) f15, up (by decide) f16, up (by decide) f17⟩
    · -- 3: val
      rintro bb aa wa hn hd ⟨v2, v18, v19, v20, v21, v22, v23, v24, v25, v26, v27, v28, v29, v30, v31, v32, v33, v34, rfl, G, f0, f1, f2, f3, f4, f5, f6, f7, f8, f9, f10, f11, f12, f13, f14, f15, f16, f17⟩ K hK
      have b0 : bb 0 := hd ⟨0, .data⟩ (by simp) (by rfl)
      obtain rfl := f0 b0
      have b2 : bb 2 := hd ⟨2, .data⟩ (by simp) (by rfl)
      have HK := Lib.hid hK
      clear hK
      go_wp2_with (go_at_call 8; ((with_reducible refine (lawFits_any 1000 131072 _ [(0, 600), (0, 400)] _ (Lib.hid (f2 b2)) true (Lib.hid (by decide))).mono ?_); rintro _ w1 ⟨rfl, hk⟩))
      exact HK.out _ _ ⟨_, _, _, _, _, _, _, _, _, _, _, _, _, _, _, _, _, _, rfl, (G.trans hk), fun _ => rfl, fun h => IntsAt.keep (f1 (down (by decide) h)) hk, fun h => (f2 (down (by decide) h)).keep hk, fun _ => rfl, up (by decide) f4, up (by decide) f5, fun h => IntsAt.keep (f6 (down (by decide) h)) hk, fun h => (f7 (down (by decide) h)).keep hk, up (by decide) f8, up (by decide) f9, up (by decide) f10, up (by decide) f11, up (by decide) f12, fun h => IntsAt.keep (f13 (down (by decide) h)) hk, fun h => (f14 (down (by decide) h)).keep hk, up (by decide) f15, up (by decide) f16, up (by decide) f17⟩
    · -- 4: val
      rintro bb aa wa hn hd ⟨v2, v18, v19, v20, v21, v22, v23, v24, v25, v26, v27, v28, v29, v30, v31, v32, v33, v34, rfl, G, f0, f1, f2, f3, f4, f5, f6, f7, f8, f9, f10, f11, f12, f13, f14, f15, f16, f17⟩ K hK
      have b3 : bb 3 := hd ⟨3, .data⟩ (by simp) (by rfl)
      obtain rfl := f3 b3
      have HK := Lib.hid hK
      clear hK
      go_simp
      exact HK.out _ _ ⟨_, _, _, _, _, _, _, _, _, _, _, _, _, _, _, _, _, _, rfl, G, up (by decide) f0, fun h => IntsAt.keep (f1 (down (by decide) h)) (Keep.refl _), fun h => (f2 (down (by decide) h)).keep (Keep.refl _), fun _ => rfl, fun _ => rfl, up (by decide) f5, fun h => IntsAt.keep (f6 (down (by decide) h)) (Keep.refl _), fun h => (f7 (down (by decide) h)).keep (Keep.refl _), up (by decide) f8, up (by decide) f9, up (by decide) f10, up (by decide) f11, up (by decide) f12, fun h => IntsAt.keep (f13 (down (by decide) h)) (Keep.refl _), fun h => (f14 (down (by decide) h)).keep (Keep.refl _), up (by decide) f15, up (by decide) f16, up (by decide) f17⟩
    · -- 5: val
      rintro bb aa wa hn hd ⟨v2, v18, v19, v20, v21, v22, v23, v24, v25, v26, v27, v28, v29, v30, v31, v32, v33, v34, rfl, G, f0, f1, f2, f3, f4, f5, f6, f7, f8, f9, f10, f11, f12, f13, f14, f15, f16, f17⟩ K hK
      have b4 : bb 4 := hd ⟨4, .guard⟩ (by simp) (by rfl)
      obtain rfl := f4 b4
      have k0 := G.some c0
      have k1 := G.some c1
      have HK := Lib.hid hK
      clear hK
      go_simp
      exact HK.out _ _ ⟨_, _, _, _, _, _, _, _, _, _, _, _, _, _, _, _, _, _, rfl, G, up (by decide) f0, fun h => IntsAt.keep (f1 (down (by decide) h)) (Keep.refl _), fun h => (f2 (down (by decide) h)).keep (Keep.refl _), up (by decide) f3, fun _ => rfl, fun _ => rfl, fun h => IntsAt.keep (f6 (down (by decide) h)) (Keep.refl _), fun h => (f7 (down (by decide) h)).keep (Keep.refl _), up (by decide) f8, up (by decide) f9, up (by decide) f10, up (by decide) f11, up (by decide) f12, fun h => IntsAt.keep (f13 (down (by decide) h)) (Keep.refl _), fun h => (f14 (down (by decide) h)).keep (Keep.refl _), up (by decide) f15, up (by decide) f16, up (by decide) f17⟩
    · -- 6: fact
      rintro bb aa wa hn hd ⟨v2, v18, v19, v20, v21, v22, v23, v24, v25, v26, v27, v28, v29, v30, v31, v32, v33, v34, rfl, G, f0, f1, f2, f3, f4, f5, f6, f7, f8, f9, f10, f11, f12, f13, f14, f15, f16, f17⟩ K hK
      have b4 : bb 4 := hd ⟨4, .guard⟩ (by simp) (by rfl)
      obtain rfl := f4 b4
      have HK := Lib.hid hK
      clear hK
      go_simp
      exact HK.out _ _ ⟨_, _, _, _, _, _, _, _, _, _, _, _, _, _, _, _, _, _, rfl, (G.trans (Keep.alloc (Keep.refl _) _)), up (by decide) f0, fun h => IntsAt.keep (f1 (down (by decide) h)) (Keep.alloc (Keep.refl _) _), fun h => (f2 (down (by decide) h)).keep (Keep.alloc (Keep.refl _) _), up (by decide) f3, fun _ => rfl, up (by decide) f5, fun _ => intsNew _ [0, 600, 0, 401] _ (by decide), fun h => (f7 (down (by decide) h)).keep (Keep.alloc (Keep.refl _) _), up (by decide) f8, up (by decide) f9, up (by decide) f10, up (by decide) f11, up (by decide) f12, fun h => IntsAt.keep (f13 (down (by decide) h)) (Keep.alloc (Keep.refl _) _), fun h => (f14 (down (by decide) h)).keep (Keep.alloc (Keep.refl _) _), up (by decide) f15, up (by decide) f16, up (by decide) f17⟩
    · -- 7: row
      rintro bb aa wa hn hd ⟨v2, v18, v19, v20, v21, v22, v23, v24, v25, v26, v27, v28, v29, v30, v31, v32, v33, v34, rfl, G, f0, f1, f2, f3, f4, f5, f6, f7, f8, f9, f10, f11, f12, f13, f14, f15, f16, f17⟩ K hK
      have b6 : bb 6 := hd ⟨6, .data⟩ (by simp) (by rfl)
      have b4 : bb 4 := hd ⟨4, .guard⟩ (by simp) (by rfl)
      obtain rfl := f4 b4
      have HK := Lib.hid hK
      clear hK
      go_wp2_with (go_at_call 9; ((with_reducible refine (trace_is _ [0, 600, 0, 401] [(0, 600), (0, 401)] _ (Lib.hid (f6 b6)) (Lib.hid (by decide))).mono ?_); rintro _ w1 ⟨v1, rfl, hr, hk, hf⟩))
      exact HK.out _ _ ⟨_, _, _, _, _, _, _, _, _, _, _, _, _, _, _, _, _, _, rfl, (G.trans hk), up (by decide) f0, fun h => IntsAt.keep (f1 (down (by decide) h)) hk, fun h => (f2 (down (by decide) h)).keep hk, up (by decide) f3, fun _ => rfl, up (by decide) f5, fun h => IntsAt.keep (f6 (down (by decide) h)) hk, fun _ => hr, up (by decide) f8, up (by decide) f9, up (by decide) f10, up (by decide) f11, up (by decide) f12, fun h => IntsAt.keep (f13 (down (by decide) h)) hk, fun h => (f14 (down (by decide) h)).keep hk, up (by decide) f15, up (by decide) f16, up (by decide) f17⟩
    · -- 8: val
      rintro bb aa wa hn hd ⟨v2, v18, v19, v20, v21, v22, v23, v24, v25, v26, v27, v28, v29, v30, v31, v32, v33, v34, rfl, G, f0, f1, f2, f3, f4, f5, f6, f7, f8, f9, f10, f11, f12, f13, f14, f15, f16, f17⟩ K hK
      have b5 : bb 5 := hd ⟨5, .data⟩ (by simp) (by rfl)
      obtain rfl := f5 b5
      have b7 : bb 7 := hd ⟨7, .data⟩ (by simp) (by rfl)
      have b4 : bb 4 := hd ⟨4, .guard⟩ (by simp) (by rfl)
      obtain rfl := f4 b4
      have HK := Lib.hid hK
      clear hK
      go_wp2_with (go_at_call 8; ((with_reducible refine (lawFits_any 1000 131072 _ [(0, 600), (0, 401)] _ (Lib.hid (f7 b7)) false (Lib.hid (by decide))).mono ?_); rintro _ w1 ⟨rfl, hk⟩))
      exact HK.out _ _ ⟨_, _, _, _, _, _, _, _, _, _, _, _, _, _, _, _, _, _, rfl, (G.trans hk), up (by decide) f0, fun h => IntsAt.keep (f1 (down (by decide) h)) hk, fun h => (f2 (down (by decide) h)).keep hk, up (by decide) f3, fun _ => rfl, fun _ => rfl, fun h => IntsAt.keep (f6 (down (by decide) h)) hk, fun h => (f7 (down (by decide) h)).keep hk, fun _ => rfl, up (by decide) f9, up (by decide) f10, up (by decide) f11, up (by decide) f12, fun h => IntsAt.keep (f13 (down (by decide) h)) hk, fun h => (f14 (down (by decide) h)).keep hk, up (by decide) f15, up (by decide) f16, up (by decide) f17⟩
    · -- 9: val
      rintro bb aa wa hn hd ⟨v2, v18, v19, v20, v21, v22, v23, v24, v25, v26, v27, v28, v29, v30, v31, v32, v33, v34, rfl, G, f0, f1, f2, f3, f4, f5, f6, f7, f8, f9, f10, f11, f12, f13, f14, f15, f16, f17⟩ K hK
      have b8 : bb 8 := hd ⟨8, .data⟩ (by simp) (by rfl)
      obtain rfl := f8 b8
      have b4 : bb 4 := hd ⟨4, .guard⟩ (by simp) (by rfl)
      obtain rfl := f4 b4
      have HK := Lib.hid hK
      clear hK
      go_simp
      exact HK.out _ _ ⟨_, _, _, _, _, _, _, _, _, _, _, _, _, _, _, _, _, _, rfl, G, up (by decide) f0, fun h => IntsAt.keep (f1 (down (by decide) h)) (Keep.refl _), fun h => (f2 (down (by decide) h)).keep (Keep.refl _), up (by decide) f3, fun _ => rfl, up (by decide) f5, fun h => IntsAt.keep (f6 (down (by decide) h)) (Keep.refl _), fun h => (f7 (down (by decide) h)).keep (Keep.refl _), fun _ => rfl, fun _ => rfl, up (by decide) f10, up (by decide) f11, up (by decide) f12, fun h => IntsAt.keep (f13 (down (by decide) h)) (Keep.refl _), fun h => (f14 (down (by decide) h)).keep (Keep.refl _), up (by decide) f15, up (by decide) f16, up (by decide) f17⟩
    · -- 10: val
      rintro bb aa wa hn hd ⟨v2, v18, v19, v20, v21, v22, v23, v24, v25, v26, v27, v28, v29, v30, v31, v32, v33, v34, rfl, G, f0, f1, f2, f3, f4, f5, f6, f7, f8, f9, f10, f11, f12, f13, f14, f15, f16, f17⟩ K hK
      have b4 : bb 4 := hd ⟨4, .data⟩ (by simp) (by rfl)
      obtain rfl := f4 b4
      have b9 : bb 9 := hd ⟨9, .data⟩ (by simp) (by rfl)
      obtain rfl := f9 b9
      have HK := Lib.hid hK
      clear hK
      go_simp
      exact HK.out _ _ ⟨_, _, _, _, _, _, _, _, _, _, _, _, _, _, _, _, _, _, rfl, G, up (by decide) f0, fun h => IntsAt.keep (f1 (down (by decide) h)) (Keep.refl _), fun h => (f2 (down (by decide) h)).keep (Keep.refl _), up (by decide) f3, fun _ => rfl, up (by decide) f5, fun h => IntsAt.keep (f6 (down (by decide) h)) (Keep.refl _), fun h => (f7 (down (by decide) h)).keep (Keep.refl _), up (by decide) f8, fun _ => rfl, fun _ => rfl, up (by decide) f11, up (by decide) f12, fun h => IntsAt.keep (f13 (down (by decide) h)) (Keep.refl _), fun h => (f14 (down (by decide) h)).keep (Keep.refl _), up (by decide) f15, up (by decide) f16, up (by decide) f17⟩
    · -- 11: val
      rintro bb aa wa hn hd ⟨v2, v18, v19, v20, v21, v22, v23, v24, v25, v26, v27, v28, v29, v30, v31, v32, v33, v34, rfl, G, f0, f1, f2, f3, f4, f5, f6, f7, f8, f9, f10, f11, f12, f13, f14, f15, f16, f17⟩ K hK
      have b10 : bb 10 := hd ⟨10, .data⟩ (by simp) (by rfl)
      obtain rfl := f10 b10
      have HK := Lib.hid hK
      clear hK
      go_simp
      exact HK.out _ _ ⟨_, _, _, _, _, _, _, _, _, _, _, _, _, _, _, _, _, _, rfl, G, up (by decide) f0, fun h => IntsAt.keep (f1 (down (by decide) h)) (Keep.refl _), fun h => (f2 (down (by decide) h)).keep (Keep.refl _), up (by decide) f3, up (by decide) f4, up (by decide) f5, fun h => IntsAt.keep (f6 (down (by decide) h)) (Keep.refl _), fun h => (f7 (down (by decide) h)).keep (Keep.refl _), up (by decide) f8, up (by decide) f9, fun _ => rfl, fun _ => rfl, up (by decide) f12, fun h => IntsAt.keep (f13 (down (by decide) h)) (Keep.refl _), fun h => (f14 (down (by decide) h)).keep (Keep.refl _), up (by decide) f15, up (by decide) f16, up (by decide) f17⟩
    · -- 12: val
      rintro bb aa wa hn hd ⟨v2, v18, v19, v20, v21, v22, v23, v24, v25, v26, v27, v28, v29, v30, v31, v32, v33, v34, rfl, G, f0, f1, f2, f3, f4, f5, f6, f7, f8, f9, f10, f11, f12, f13, f14, f15, f16, f17⟩ K hK
      have b11 : bb 11 := hd ⟨11, .guard⟩ (by simp) (by rfl)
      obtain rfl := f11 b11
      have k0 := G.some c0
      have k1 := G.some c1
      have HK := Lib.hid hK
      clear hK
      go_simp
      exact HK.out _ _ ⟨_, _, _, _, _, _, _, _, _, _, _, _, _, _, _, _, _, _, rfl, G, up (by decide) f0, fun h => IntsAt.keep (f1 (down (by decide) h)) (Keep.refl _), fun h => (f2 (down (by decide) h)).keep (Keep.refl _), up (by decide) f3, up (by decide) f4, up (by decide) f5, fun h => IntsAt.keep (f6 (down (by decide) h)) (Keep.refl _), fun h => (f7 (down (by decide) h)).keep (Keep.refl _), up (by decide) f8, up (by decide) f9, up (by decide) f10, fun _ => rfl, fun _ => rfl, fun h => IntsAt.keep (f13 (down (by decide) h)) (Keep.refl _), fun h => (f14 (down (by decide) h)).keep (Keep.refl _), up (by decide) f15, up (by decide) f16, up (by decide) f17⟩
    · -- 13: fact
      rintro bb aa wa hn hd ⟨v2, v18, v19, v20, v21, v22, v23, v24, v25, v26, v27, v28, v29, v30, v31, v32, v33, v34, rfl, G, f0, f1, f2, f3, f4, f5, f6, f7, f8, f9, f10, f11, f12, f13, f14, f15, f16, f17⟩ K hK
      have b11 : bb 11 := hd ⟨11, .guard⟩ (by simp) (by rfl)
      obtain rfl := f11 b11
      have HK := Lib.hid hK
      clear hK
      go_simp
      exact HK.out _ _ ⟨_, _, _, _, _, _, _, _, _, _, _, _, _, _, _, _, _, _, rfl, (G.trans (Keep.alloc (Keep.refl _) _)), up (by decide) f0, fun h => IntsAt.keep (f1 (down (by decide) h)) (Keep.alloc (Keep.refl _) _), fun h => (f2 (down (by decide) h)).keep (Keep.alloc (Keep.refl _) _), up (by decide) f3, up (by decide) f4, up (by decide) f5, fun h => IntsAt.keep (f6 (down (by decide) h)) (Keep.alloc (Keep.refl _) _), fun h => (f7 (down (by decide) h)).keep (Keep.alloc (Keep.refl _) _), up (by decide) f8, up (by decide) f9, up (by decide) f10, fun _ => rfl, up (by decide) f12, fun _ => intsNew _ [0, 1000, 800, 100] _ (by decide), fun h => (f14 (down (by decide) h)).keep (Keep.alloc (Keep.refl _) _), up (by decide) f15, up (by decide) f16, up (by decide) f17⟩
    · -- 14: row
      rintro bb aa wa hn hd ⟨v2, v18, v19, v20, v21, v22, v23, v24, v25, v26, v27, v28, v29, v30, v31, v32, v33, v34, rfl, G, f0, f1, f2, f3, f4, f5, f6, f7, f8, f9, f10, f11, f12, f13, f14, f15, f16, f17⟩ K hK
      have b13 : bb 13 := hd ⟨13, .data⟩ (by simp) (by rfl)
      have b11 : bb 11 := hd ⟨11, .guard⟩ (by simp) (by rfl)
      obtain rfl := f11 b11
      have HK := Lib.hid hK
      clear hK
      go_wp2_with (go_at_call 9; ((with_reducible refine (trace_is _ [0, 1000, 800, 100] [(0, 1000), (800, 100)] _ (Lib.hid (f13 b13)) (Lib.hid (by decide))).mono ?_); rintro _ w1 ⟨v1, rfl, hr, hk, hf⟩))
      exact HK.out _ _ ⟨_, _, _, _, _, _, _, _, _, _, _, _, _, _, _, _, _, _, rfl, (G.trans hk), up (by decide) f0, fun h => IntsAt.keep (f1 (down (by decide) h)) hk, fun h => (f2 (down (by decide) h)).keep hk, up (by decide) f3, up (by decide) f4, up (by decide) f5, fun h => IntsAt.keep (f6 (down (by decide) h)) hk, fun h => (f7 (down (by decide) h)).keep hk, up (by decide) f8, up (by decide) f9, up (by decide) f10, fun _ => rfl, up (by decide) f12, fun h => IntsAt.keep (f13 (down (by decide) h)) hk, fun _ => hr, up (by decide) f15, up (by decide) f16, up (by decide) f17⟩
    · -- 15: val
      rintro bb aa wa hn hd ⟨v2, v18, v19, v20, v21, v22, v23, v24, v25, v26, v27, v28, v29, v30, v31, v32, v33, v34, rfl, G, f0, f1, f2, f3, f4, f5, f6, f7, f8, f9, f10, f11, f12, f13, f14, f15, f16, f17⟩ K hK
      have b12 : bb 12 := hd ⟨12, .data⟩ (by simp) (by rfl)
      obtain rfl := f12 b12
      have b14 : bb 14 := hd ⟨14, .data⟩ (by simp) (by rfl)
      have b11 : bb 11 := hd ⟨11, .guard⟩ (by simp) (by rfl)
      obtain rfl := f11 b11
      have HK := Lib.hid hK
      clear hK
      go_wp2_with (go_at_call 8; ((with_reducible refine (lawFits_any 1000 131072 _ [(0, 1000), (800, 100)] _ (Lib.hid (f14 b14)) true (Lib.hid (by decide))).mono ?_); rintro _ w1 ⟨rfl, hk⟩))
      exact HK.out _ _ ⟨_, _, _, _, _, _, _, _, _, _, _, _, _, _, _, _, _, _, rfl, (G.trans hk), up (by decide) f0, fun h => IntsAt.keep (f1 (down (by decide) h)) hk, fun h => (f2 (down (by decide) h)).keep hk, up (by decide) f3, up (by decide) f4, up (by decide) f5, fun h => IntsAt.keep (f6 (down (by decide) h)) hk, fun h => (f7 (down (by decide) h)).keep hk, up (by decide) f8, up (by decide) f9, up (by decide) f10, fun _ => rfl, fun _ => rfl, fun h => IntsAt.keep (f13 (down (by decide) h)) hk, fun h => (f14 (down (by decide) h)).keep hk, fun _ => rfl, up (by decide) f16, up (by decide) f17⟩
    · -- 16: val
      rintro bb aa wa hn hd ⟨v2, v18, v19, v20, v21, v22, v23, v24, v25, v26, v27, v28, v29, v30, v31, v32, v33, v34, rfl, G, f0, f1, f2, f3, f4, f5, f6, f7, f8, f9, f10, f11, f12, f13, f14, f15, f16, f17⟩ K hK
      have b11 : bb 11 := hd ⟨11, .data⟩ (by simp) (by rfl)
      obtain rfl := f11 b11
      have b15 : bb 15 := hd ⟨15, .data⟩ (by simp) (by rfl)
      obtain rfl := f15 b15
      have HK := Lib.hid hK
      clear hK
      go_simp
      exact HK.out _ _ ⟨_, _, _, _, _, _, _, _, _, _, _, _, _, _, _, _, _, _, rfl, G, up (by decide) f0, fun h => IntsAt.keep (f1 (down (by decide) h)) (Keep.refl _), fun h => (f2 (down (by decide) h)).keep (Keep.refl _), up (by decide) f3, up (by decide) f4, up (by decide) f5, fun h => IntsAt.keep (f6 (down (by decide) h)) (Keep.refl _), fun h => (f7 (down (by decide) h)).keep (Keep.refl _), up (by decide) f8, up (by decide) f9, up (by decide) f10, fun _ => rfl, up (by decide) f12, fun h => IntsAt.keep (f13 (down (by decide) h)) (Keep.refl _), fun h => (f14 (down (by decide) h)).keep (Keep.refl _), fun _ => rfl, fun _ => rfl, up (by decide) f17⟩
    · -- 17: val
      rintro bb aa wa hn hd ⟨v2, v18, v19, v20, v21, v22, v23, v24, v25, v26, v27, v28, v29, v30, v31, v32, v33, v34, rfl, G, f0, f1, f2, f3, f4, f5, f6, f7, f8, f9, f10, f11, f12, f13, f14, f15, f16, f17⟩ K hK
      have b16 : bb 16 := hd ⟨16, .data⟩ (by simp) (by rfl)
      obtain rfl := f16 b16
      have HK := Lib.hid hK
      clear hK
      go_simp
      exact HK.out _ _ ⟨_, _, _, _, _, _, _, _, _, _, _, _, _, _, _, _, _, _, rfl, G, up (by decide) f0, fun h => IntsAt.keep (f1 (down (by decide) h)) (Keep.refl _), fun h => (f2 (down (by decide) h)).keep (Keep.refl _), up (by decide) f3, up (by decide) f4, up (by decide) f5, fun h => IntsAt.keep (f6 (down (by decide) h)) (Keep.refl _), fun h => (f7 (down (by decide) h)).keep (Keep.refl _), up (by decide) f8, up (by decide) f9, up (by decide) f10, up (by decide) f11, up (by decide) f12, fun h => IntsAt.keep (f13 (down (by decide) h)) (Keep.refl _), fun h => (f14 (down (by decide) h)).keep (Keep.refl _), up (by decide) f15, fun _ => rfl, fun _ => rfl⟩

end Go.Proofs.Ytaknbjjcgcmdlaa
