/- CurveDrains' walk: Drain of the program and of the reference return the same. -/
import Derived.Test.YtmamadgikjkjdaaRefDrain
import Derived.Test.YtmamadgikjkjdaaWorks4
import Derived.Test.YtmamadgikjkjdaaConf
namespace Go.Proofs.Ytmamadgikjkjdaa
open Go Go.RowKit

set_option maxRecDepth 100000 in
theorem sliceAny (t : TypeId) (hs : ∀ w, (sizeOf (Try.prog.elem t)).run Try.prog w = .ok 2 w) (ht' : Try.prog.underlying t = some (.slice (Try.prog.elem t))) (a : Option Addr) (n cap m : Nat) (h : m ≤ cap) (w : World) : (Instr.slice t (.slice a n cap) none (some (.int .i64 (m : Int))) none).run Try.prog w = .ok (.slice a m cap) w := by
  rw [run_slice_h (ht := ht') (h0 := by omega) (h2 := by omega), hs]
  have ea : a.map (fun x => x.add 0) = a := by
    cases a with
    | none => rfl
    | some x => cases x; simp [Addr.add]
  simp [sliced, Result.andThen, ea]
theorem arrivalsCut (a : Option Addr) (n cap m : Nat) (h : m ≤ cap) (w : World) : (Instr.slice 32 (.slice a n cap) none (some (.int .i64 (m : Int))) none).run Try.prog w = .ok (.slice a m cap) w :=
  sliceAny _ (fun w => by simp [go_sem]) (by kernel_rfl) a n cap m h w
theorem rowCut {w : World} {a : Option Addr} {n cap m : Nat} {l : List (Int × Int)} (h : RowAt w (.slice a n cap) l) (hm : m ≤ n) : RowAt w (.slice a m cap) (l.take m) ∧ n ≤ cap := by
  rcases h with ⟨h, rfl⟩ | ⟨b, off, n', cap', h1, h2, h3, h4, h5⟩
  · cases h
    obtain rfl : m = 0 := by omega
    exact ⟨Or.inl ⟨rfl, by simp⟩, Nat.le_refl _⟩
  · cases h1
    exact ⟨RowAt.take h2 h3 hm h4 h5, h3.1⟩

set_option maxRecDepth 100000 in
set_option maxHeartbeats 8000000 in
theorem drains_walk (B R : Int) (ga sa : Option Addr) (gl gc sl sc : Nat) (gs ss : List Int) (a0 : Option Addr) (n cap m : Nat) (l0 : List (Int × Int)) (s0 s1 n0 n1 : Int) (w : World) (hRow : Hid (RowAt w (.slice a0 n cap) l0)) (hmn : m ≤ n) (hmin : min (n : Int) 40 = (m : Int)) (hD : Hid (DraftAt w (.agg #[.int .u32 B, .int .u32 R, .slice ga gl gc, .slice sa sl sc]) B R gs ss)) (l : List (Int × Int)) (Hl : Hid (traceD gs ss (min ss.length 30) = l)) (h0 : 0 ≤ n0 ∧ n0 ≤ 4294967295) (h1 : 0 ≤ n1 ∧ n1 ≤ 4294967295) :
    Calls Try.prog 8 #[.slice a0 n cap, .agg #[.int .u32 B, .int .u32 R, .slice ga gl gc, .slice sa sl sc], .agg #[.int .i64 s0, .int .i64 s1], .agg #[.int .u32 n0, .int .u32 n1]] w (Res (.bool true) w) := by
  have KK := Lib.hid (((Keep.alloc (Keep.refl w) (.cells #[.int .u32 B, .int .u32 R, .slice ga gl gc, .slice sa sl sc] 25)).alloc (.cells #[.int .i64 s0, .int .i64 s1] 54)).alloc (.cells #[.int .u32 n0, .int .u32 n1] 64))
  have HD := Lib.hid (hD.out.keep KK.out)
  have hcut := rowCut hRow.out hmn
  have hsl : ∀ w', (Instr.slice 32 (.slice a0 n cap) none (some (.int .i64 (m : Int))) none).run Try.prog w' = .ok (.slice a0 m cap) w' := fun w' => arrivalsCut a0 n cap m (by omega) w'
  have hsa : ∀ w', (Instr.sliceAt 32 (.slice a0 n cap) none (some (.int .i64 (m : Int))) none).run Try.prog w' = .ok (.slice a0 m cap) w' := fun w' => by
    rw [run_sliceAt_slice (h := by kernel_rfl)]; exact hsl w'
  have RL := Lib.hid (hcut.1.keep KK.out)
  clear hD hRow hcut
  have d0 : (((w.alloc (.cells #[.int .u32 B, .int .u32 R, .slice ga gl gc, .slice sa sl sc] 25)).alloc (.cells #[.int .i64 s0, .int .i64 s1] 54)).alloc (.cells #[.int .u32 n0, .int .u32 n1] 64)).cell? ⟨w.heap.size, 0, none⟩ = some (.int .u32 B) := by simp [go_sem]
  have d1 : (((w.alloc (.cells #[.int .u32 B, .int .u32 R, .slice ga gl gc, .slice sa sl sc] 25)).alloc (.cells #[.int .i64 s0, .int .i64 s1] 54)).alloc (.cells #[.int .u32 n0, .int .u32 n1] 64)).cell? ⟨w.heap.size, 1, none⟩ = some (.int .u32 R) := by simp [go_sem]
  have d2 : (((w.alloc (.cells #[.int .u32 B, .int .u32 R, .slice ga gl gc, .slice sa sl sc] 25)).alloc (.cells #[.int .i64 s0, .int .i64 s1] 54)).alloc (.cells #[.int .u32 n0, .int .u32 n1] 64)).cell? ⟨w.heap.size, 2, none⟩ = some (.slice ga gl gc) := by simp [go_sem]
  have d3 : (((w.alloc (.cells #[.int .u32 B, .int .u32 R, .slice ga gl gc, .slice sa sl sc] 25)).alloc (.cells #[.int .i64 s0, .int .i64 s1] 54)).alloc (.cells #[.int .u32 n0, .int .u32 n1] 64)).cell? ⟨w.heap.size, 3, none⟩ = some (.slice sa sl sc) := by simp [go_sem]
  have c0 : (((w.alloc (.cells #[.int .u32 B, .int .u32 R, .slice ga gl gc, .slice sa sl sc] 25)).alloc (.cells #[.int .i64 s0, .int .i64 s1] 54)).alloc (.cells #[.int .u32 n0, .int .u32 n1] 64)).cell? ⟨w.heap.size + 1, 0, none⟩ = some (.int .i64 s0) := by simp [go_sem]
  have c1 : (((w.alloc (.cells #[.int .u32 B, .int .u32 R, .slice ga gl gc, .slice sa sl sc] 25)).alloc (.cells #[.int .i64 s0, .int .i64 s1] 54)).alloc (.cells #[.int .u32 n0, .int .u32 n1] 64)).cell? ⟨w.heap.size + 1, 1, none⟩ = some (.int .i64 s1) := by simp [go_sem]
  have e0 : (((w.alloc (.cells #[.int .u32 B, .int .u32 R, .slice ga gl gc, .slice sa sl sc] 25)).alloc (.cells #[.int .i64 s0, .int .i64 s1] 54)).alloc (.cells #[.int .u32 n0, .int .u32 n1] 64)).cell? ⟨w.heap.size + 1 + 1, 0, none⟩ = some (.int .u32 n0) := by simp [go_sem]
  have e1 : (((w.alloc (.cells #[.int .u32 B, .int .u32 R, .slice ga gl gc, .slice sa sl sc] 25)).alloc (.cells #[.int .i64 s0, .int .i64 s1] 54)).alloc (.cells #[.int .u32 n0, .int .u32 n1] 64)).cell? ⟨w.heap.size + 1 + 1, 1, none⟩ = some (.int .u32 n1) := by simp [go_sem]
  obtain ⟨P1, hP1⟩ : ∃ X, 1 + n0 % 2097152 = X := ⟨_, rfl⟩
  obtain ⟨Q1, hQ1⟩ : ∃ X, n1 % 268435457 = X := ⟨_, rfl⟩
  have HP1 := Lib.hid hP1
  have HQ1 := Lib.hid hQ1
  clear hP1 hQ1
  obtain ⟨BG, hBG⟩ : ∃ BG, w.heap.size = BG := ⟨_, rfl⟩
  obtain ⟨W0, hW0⟩ : ∃ W0, ((w.alloc (.cells #[.int .u32 B, .int .u32 R, .slice ga gl gc, .slice sa sl sc] 25)).alloc (.cells #[.int .i64 s0, .int .i64 s1] 54)).alloc (.cells #[.int .u32 n0, .int .u32 n1] 64) = W0 := ⟨_, rfl⟩
  rw [hBG] at d0 d1 d2 d3 c0 c1 e0 e1
  rw [hW0] at d0 d1 d2 d3 c0 c1 e0 e1 KK HD RL
  go_enter Try.func8, Try.ntmps8
  go_wp2_with fail
  try rw [hBG]
  try rw [hW0]
  clear hW0 hBG
  go_at_call 39
  refine (draftTrace_is _ B R gs ss _ HD l Hl).mono ?_
  rintro _ w1 ⟨v1, rfl, hr, k1, -⟩
  obtain ⟨a3, c3, rfl, -⟩ := hr.form
  obtain ⟨nl, hnl⟩ : ∃ nl, l.length = nl := ⟨_, rfl⟩
  rw [hnl] at hr ⊢
  have KK := Lib.hid (KK.out.trans k1)
  have c0 := k1.some c0
  have c1 := k1.some c1
  have e0 := k1.some e0
  have e1 := k1.some e1
  have HIX : Hid (∀ i : Nat, i < 2 → ∃ aa nn cc ll, (∀ w', (Instr.index 73 (.agg #[.slice a0 m cap, .slice a3 nl c3]) (.int .i64 (i : Int))).run Try.prog w' = .ok (.slice aa nn cc) w') ∧ RowAt w1 (.slice aa nn cc) ll) := Lib.hid fun i hi => by
    obtain rfl | rfl : i = 0 ∨ i = 1 := by omega
    · exact ⟨a0, m, cap, _, fun w' => by kernel_rfl, RL.out.keep k1⟩
    · exact ⟨a3, nl, c3, _, fun w' => by kernel_rfl, hr⟩
  clear hr k1 RL HD hnl hsl hsa d0 d1 d2 d3
  go_wp2
  go_loopw [26] (fun s26 wr => ∃ i : Nat, i ≤ 2 ∧ s26 = .int .i64 (i : Int) ∧ Hid (Keep w1 wr)) (fun i _ => 2 - (intOf i).toNat)
  case atStart => exact ⟨0, by omega, rfl, Lib.hid (Keep.refl _)⟩
  case round =>
    obtain ⟨i, hi, rfl, HR⟩ := hrel
    have KK := Lib.hid (KK.out.trans HR.out)
    by_cases hlt : i < 2
    · obtain ⟨aa, nn, cc, ll, hix, hrow⟩ := HIX.out i hlt
      have RW := Lib.hid (hrow.keep HR.out)
      have hlt' : (i : Int) < 2 := by omega
      have c0 := HR.out.some c0
      have c1 := HR.out.some c1
      have e0 := HR.out.some e0
      have e1 := HR.out.some e1
      clear hrow
      go_upto_region 5 with fail
      obtain ⟨W4, hW4⟩ : ∃ W4, wr = W4 := ⟨_, rfl⟩
      rw [hW4] at c0 c1 e0 e1 HR RW
      try rw [hW4]
      clear hW4 hix KK
      refine region_lin (W0 := W4) (listF [fun v ww => v = .agg #[.int .i64 s0, .int .i64 s1], fun v ww => v = .pointer (some ⟨BG + 1 + 1, 0, none⟩), fun v ww => v = .int .u32 n0, fun v ww => v = .pointer (some ⟨BG + 1 + 1, 1, none⟩), fun v ww => v = .int .u32 n1, fun v ww => v = .agg #[.int .i64 P1, .int .i64 Q1], fun v ww => v = .pointer (some ⟨BG + 1 + 1, 0, none⟩), fun v ww => v = .int .u32 n0, fun v ww => v = .int .u32 (n0 % 22), fun v ww => ∃ T : Int, v = .int .i64 T, fun v ww => v = .pointer (some ⟨BG + 1 + 1, 1, none⟩), fun v ww => v = .int .u32 n1, fun v ww => v = .int .u32 (n1 % 300), fun v ww => v = .int .i64 (n1 % 300), fun v ww => ∃ T : Int, v = .agg #[.int .i64 T, .int .i64 (n1 % 300)], fun v ww => ∃ T : Int, v = .agg #[.int .i64 s0, .int .i64 s1, .int .i64 P1, .int .i64 Q1, .int .i64 T, .int .i64 (n1 % 300)], fun v ww => v = .int .i64 0]) (listF_stable _ ⟨fun _ _ _ _ h => h, fun _ _ _ _ h => h, fun _ _ _ _ h => h, fun _ _ _ _ h => h, fun _ _ _ _ h => h, fun _ _ _ _ h => h, fun _ _ _ _ h => h, fun _ _ _ _ h => h, fun _ _ _ _ h => h, fun _ _ _ _ h => h, fun _ _ _ _ h => h, fun _ _ _ _ h => h, fun _ _ _ _ h => h, fun _ _ _ _ h => h, fun _ _ _ _ h => h, fun _ _ _ _ h => h, fun _ _ _ _ h => h, trivial⟩) (by kernel_rfl) (by kernel_rfl) (by kernel_rfl) (by kernel_rfl) (Keep.refl _) ?done5 ?steps5
      case done5 =>
        intro T5 wz5 hJ
        obtain ⟨x0, t0, f0⟩ := hJ.fact 0 29 (by decide) (by kernel_rfl)
        obtain rfl : x0 = .agg #[.int .i64 s0, .int .i64 s1] := f0
        obtain ⟨x1, t1, f1⟩ := hJ.fact 1 30 (by decide) (by kernel_rfl)
        obtain rfl : x1 = .pointer (some ⟨BG + 1 + 1, 0, none⟩) := f1
        obtain ⟨x2, t2, f2⟩ := hJ.fact 2 31 (by decide) (by kernel_rfl)
        obtain rfl : x2 = .int .u32 n0 := f2
        obtain ⟨x3, t3, f3⟩ := hJ.fact 3 32 (by decide) (by kernel_rfl)
        obtain rfl : x3 = .pointer (some ⟨BG + 1 + 1, 1, none⟩) := f3
        obtain ⟨x4, t4, f4⟩ := hJ.fact 4 33 (by decide) (by kernel_rfl)
        obtain rfl : x4 = .int .u32 n1 := f4
        obtain ⟨x5, t5, f5⟩ := hJ.fact 5 34 (by decide) (by kernel_rfl)
        obtain rfl : x5 = .agg #[.int .i64 P1, .int .i64 Q1] := f5
        obtain ⟨x6, t6, f6⟩ := hJ.fact 6 35 (by decide) (by kernel_rfl)
        obtain rfl : x6 = .pointer (some ⟨BG + 1 + 1, 0, none⟩) := f6
        obtain ⟨x7, t7, f7⟩ := hJ.fact 7 36 (by decide) (by kernel_rfl)
        obtain rfl : x7 = .int .u32 n0 := f7
        obtain ⟨x8, t8, f8⟩ := hJ.fact 8 37 (by decide) (by kernel_rfl)
        obtain rfl : x8 = .int .u32 (n0 % 22) := f8
        obtain ⟨x9, t9, f9⟩ := hJ.fact 9 38 (by decide) (by kernel_rfl)
        replace f9 : ∃ T : Int, x9 = .int .i64 T := f9
        obtain ⟨x10, t10, f10⟩ := hJ.fact 10 39 (by decide) (by kernel_rfl)
        obtain rfl : x10 = .pointer (some ⟨BG + 1 + 1, 1, none⟩) := f10
        obtain ⟨x11, t11, f11⟩ := hJ.fact 11 40 (by decide) (by kernel_rfl)
        obtain rfl : x11 = .int .u32 n1 := f11
        obtain ⟨x12, t12, f12⟩ := hJ.fact 12 41 (by decide) (by kernel_rfl)
        obtain rfl : x12 = .int .u32 (n1 % 300) := f12
        obtain ⟨x13, t13, f13⟩ := hJ.fact 13 42 (by decide) (by kernel_rfl)
        obtain rfl : x13 = .int .i64 (n1 % 300) := f13
        obtain ⟨x14, t14, f14⟩ := hJ.fact 14 43 (by decide) (by kernel_rfl)
        replace f14 : ∃ T : Int, x14 = .agg #[.int .i64 T, .int .i64 (n1 % 300)] := f14
        obtain ⟨x15, t15, f15⟩ := hJ.fact 15 44 (by decide) (by kernel_rfl)
        replace f15 : ∃ T : Int, x15 = .agg #[.int .i64 s0, .int .i64 s1, .int .i64 P1, .int .i64 Q1, .int .i64 T, .int .i64 (n1 % 300)] := f15
        obtain ⟨x16, t16, f16⟩ := hJ.fact 16 45 (by decide) (by kernel_rfl)
        obtain rfl : x16 = .int .i64 0 := f16
        have hfr := hJ.frame [(29, .agg #[.int .i64 s0, .int .i64 s1]), (30, .pointer (some ⟨BG + 1 + 1, 0, none⟩)), (31, .int .u32 n0), (32, .pointer (some ⟨BG + 1 + 1, 1, none⟩)), (33, .int .u32 n1), (34, .agg #[.int .i64 P1, .int .i64 Q1]), (35, .pointer (some ⟨BG + 1 + 1, 0, none⟩)), (36, .int .u32 n0), (37, .int .u32 (n0 % 22)), (38, x9), (39, .pointer (some ⟨BG + 1 + 1, 1, none⟩)), (40, .int .u32 n1), (41, .int .u32 (n1 % 300)), (42, .int .i64 (n1 % 300)), (43, x14), (44, x15), (45, .int .i64 0)] (by simp [t0, t1, t2, t3, t4, t5, t6, t7, t8, t9, t10, t11, t12, t13, t14, t15, t16]) (by kernel_rfl)
        have G := hJ.keep
        clear hJ t0 t1 t2 t3 t4 t5 t6 t7 t8 t9 t10 t11 t12 t13 t14 t15 t16
        rw [hfr]
        clear hfr T5
        simp only [List.foldl_cons, List.foldl_nil, List.setIfInBounds_toArray, List.set_cons_zero, List.set_cons_succ]
        have RW := Lib.hid (RW.out.keep G)
        have HR := Lib.hid (HR.out.trans G)
        obtain ⟨T, rfl⟩ := f15
        obtain ⟨V2, hV2⟩ : ∃ V, n1 % 300 = V := ⟨_, rfl⟩
        rw [hV2]
        have HJX : Hid (∀ i : Nat, i < 3 → ∃ k0 k1 : Int, ∀ w', (Instr.index 66 (.agg #[.int .i64 s0, .int .i64 s1, .int .i64 P1, .int .i64 Q1, .int .i64 T, .int .i64 V2]) (.int .i64 (i : Int))).run Try.prog w' = .ok (.agg #[.int .i64 k0, .int .i64 k1]) w') := Lib.hid fun i hi => by
          obtain rfl | rfl | rfl : i = 0 ∨ i = 1 ∨ i = 2 := by omega
          · exact ⟨s0, s1, fun w' => by kernel_rfl⟩
          · exact ⟨P1, Q1, fun w' => by kernel_rfl⟩
          · exact ⟨T, V2, fun w' => by kernel_rfl⟩
        clear c0 c1 e0 e1 G hV2 f9 f14
        go_wp2
        go_loopw [45] (fun s45 wr2 => ∃ j : Nat, j ≤ 3 ∧ s45 = .int .i64 (j : Int) ∧ Hid (Keep wz5 wr2)) (fun j _ => 3 - (intOf j).toNat)
        case atStart => exact ⟨0, by omega, rfl, Lib.hid (Keep.refl _)⟩
        case round =>
          obtain ⟨j, hj, rfl, KK⟩ := hrel
          by_cases hjlt : j < 3
          · obtain ⟨x0, x1, hjx⟩ := HJX.out j hjlt
            have hjlt' : (j : Int) < 3 := by omega
            have RW := Lib.hid (RW.out.keep KK.out)
            obtain ⟨⟨z, E⟩, hv⟩ : ∃ r, drainR ll x0 x1 = r := ⟨_, rfl⟩
            have H1 := Lib.hid hv
            have eE : (E != E) = false := by simp
            clear hv
            go_wp2_with fail
            go_at_call 40
            refine (drain_slice aa nn cc ll x0 x1 _ _ (Lib.hid (RW.out.keep (Keep.alloc (Keep.refl _) _))) H1).mono ?_
            rintro _ w1 ⟨v6, rfl, z6, k1⟩
            have y0 : w1.cell? ⟨wr.heap.size, 0, none⟩ = some (.int .i64 x0) := k1.some (by first | (simp [go_sem]; done) | exact cell_alloc_old _ (by simp [go_sem]) | exact cell_alloc_old _ (cell_alloc_old _ (by simp [go_sem])))
            have y1 : w1.cell? ⟨wr.heap.size, 1, none⟩ = some (.int .i64 x1) := k1.some (by first | (simp [go_sem]; done) | exact cell_alloc_old _ (by simp [go_sem]) | exact cell_alloc_old _ (cell_alloc_old _ (by simp [go_sem])))
            have RW := Lib.hid (by first | exact RW.out.keep k1 | exact RW.out.keep ((Keep.alloc (Keep.refl _) _).trans k1) | exact RW.out.keep (((Keep.alloc (Keep.refl _) _).alloc _).trans k1) | exact RW.out.keep ((((Keep.alloc (Keep.refl _) _).alloc _).alloc _).trans k1))
            have KK := Lib.hid (by first | exact KK.out.trans k1 | exact (KK.out.alloc _).trans k1 | exact ((KK.out.alloc _).alloc _).trans k1 | exact (((KK.out.alloc _).alloc _).alloc _).trans k1)
            have hy0 := cellBlock y0
            go_wp2_with fail
            go_at_call 41
            refine (refDrain_slice aa nn cc ll x0 x1 _ _ RW H1).mono ?_
            rintro _ w2 ⟨v7, rfl, z7, k2⟩
            have y0 := k2.some (by first | exact y0 | exact cell_alloc_old _ y0 | exact cell_alloc_old _ (cell_alloc_old _ y0) | exact cell_alloc_old _ (cell_alloc_old _ (cell_alloc_old _ y0)))
            have y1 := k2.some (by first | exact y1 | exact cell_alloc_old _ y1 | exact cell_alloc_old _ (cell_alloc_old _ y1) | exact cell_alloc_old _ (cell_alloc_old _ (cell_alloc_old _ y1)))
            have RW := Lib.hid (by first | exact RW.out.keep k2 | exact RW.out.keep ((Keep.alloc (Keep.refl _) _).trans k2) | exact RW.out.keep (((Keep.alloc (Keep.refl _) _).alloc _).trans k2) | exact RW.out.keep ((((Keep.alloc (Keep.refl _) _).alloc _).alloc _).trans k2))
            have KK := Lib.hid (by first | exact KK.out.trans k2 | exact (KK.out.alloc _).trans k2 | exact ((KK.out.alloc _).alloc _).trans k2 | exact (((KK.out.alloc _).alloc _).alloc _).trans k2)
            have hy0 := cellBlock y0
            have Z6 := Lib.hid (z6.keep k2)
            have Z7 := Lib.hid z7
            go_wp2_with fail
            go_at_call 42
            refine (same_is v6 v7 z z true _ Z6 Z7 (Lib.hid (by simp))).mono ?_
            rintro _ w3 ⟨rfl, k3⟩
            have y0 := k3.some (by first | exact y0 | exact cell_alloc_old _ y0 | exact cell_alloc_old _ (cell_alloc_old _ y0) | exact cell_alloc_old _ (cell_alloc_old _ (cell_alloc_old _ y0)))
            have y1 := k3.some (by first | exact y1 | exact cell_alloc_old _ y1 | exact cell_alloc_old _ (cell_alloc_old _ y1) | exact cell_alloc_old _ (cell_alloc_old _ (cell_alloc_old _ y1)))
            have RW := Lib.hid (by first | exact RW.out.keep k3 | exact RW.out.keep ((Keep.alloc (Keep.refl _) _).trans k3) | exact RW.out.keep (((Keep.alloc (Keep.refl _) _).alloc _).trans k3) | exact RW.out.keep ((((Keep.alloc (Keep.refl _) _).alloc _).alloc _).trans k3))
            have KK := Lib.hid (by first | exact KK.out.trans k3 | exact (KK.out.alloc _).trans k3 | exact ((KK.out.alloc _).alloc _).trans k3 | exact (((KK.out.alloc _).alloc _).alloc _).trans k3)
            have hy0 := cellBlock y0
            clear hjx
            go_wp2
            go_roundw
            case rel => exact ⟨j + 1, by omega, rfl, KK⟩
            case measure => simp [intOf]; omega
          · obtain rfl : j = 3 := by omega
            have HR := Lib.hid (HR.out.trans KK.out)
            go_wp2
            go_roundw
            case rel => exact ⟨i + 1, by omega, rfl, HR⟩
            case measure => simp [intOf]; omega
      case steps5 =>
        refine LinSteps.cons (k := 0) ?_ (LinSteps.cons (k := 1) ?_ (LinSteps.cons (k := 2) ?_ (LinSteps.cons (k := 3) ?_ (LinSteps.cons (k := 4) ?_ (LinSteps.cons (k := 5) ?_ (LinSteps.cons (k := 6) ?_ (LinSteps.cons (k := 7) ?_ (LinSteps.cons (k := 8) ?_ (LinSteps.cons (k := 9) ?_ (LinSteps.cons (k := 10) ?_ (LinSteps.cons (k := 11) ?_ (LinSteps.cons (k := 12) ?_ (LinSteps.cons (k := 13) ?_ (LinSteps.cons (k := 14) ?_ (LinSteps.cons (k := 15) ?_ (LinSteps.cons (k := 16) ?_ (LinSteps.nil)))))))))))))))))
        · -- 0
          refine LinStep.plain rfl ?_
          intro QQ bb T ww hn hJ hd K HK
          have s6 := (hJ.oldSlot 6 (by kernel_rfl))
          simp only [List.getElem?_toArray, List.getElem?_cons_zero, List.getElem?_cons_succ] at s6
          have G := hJ.keep
          clear hJ hd hn
          have k0 := G.some c0
          have k1 := G.some c1
          go_simp
          exact HK.out _ _ (Keep.refl _) rfl
        · -- 1
          refine LinStep.plain rfl ?_
          intro QQ bb T ww hn hJ hd K HK
          have s7 := (hJ.oldSlot 7 (by kernel_rfl))
          simp only [List.getElem?_toArray, List.getElem?_cons_zero, List.getElem?_cons_succ] at s7
          have G := hJ.keep
          clear hJ hd hn
          go_simp
          exact HK.out _ _ (Keep.refl _) rfl
        · -- 2
          refine LinStep.plain rfl ?_
          intro QQ bb T ww hn hJ hd K HK
          obtain ⟨x1, t1, f1⟩ := hJ.dep hd 1 30 (by kernel_rfl) (by kernel_rfl)
          obtain rfl : x1 = .pointer (some ⟨BG + 1 + 1, 0, none⟩) := f1
          have G := hJ.keep
          clear hJ hd hn
          have k0 := G.some e0
          go_simp
          exact HK.out _ _ (Keep.refl _) rfl
        · -- 3
          refine LinStep.plain rfl ?_
          intro QQ bb T ww hn hJ hd K HK
          have s7 := (hJ.oldSlot 7 (by kernel_rfl))
          simp only [List.getElem?_toArray, List.getElem?_cons_zero, List.getElem?_cons_succ] at s7
          have G := hJ.keep
          clear hJ hd hn
          go_simp
          exact HK.out _ _ (Keep.refl _) rfl
        · -- 4
          refine LinStep.plain rfl ?_
          intro QQ bb T ww hn hJ hd K HK
          obtain ⟨x3, t3, f3⟩ := hJ.dep hd 3 32 (by kernel_rfl) (by kernel_rfl)
          obtain rfl : x3 = .pointer (some ⟨BG + 1 + 1, 1, none⟩) := f3
          have G := hJ.keep
          clear hJ hd hn
          have k0 := G.some e1
          go_simp
          exact HK.out _ _ (Keep.refl _) rfl
        · -- 5
          refine LinStep.plain rfl ?_
          intro QQ bb T ww hn hJ hd K HK
          obtain ⟨x2, t2, f2⟩ := hJ.dep hd 2 31 (by kernel_rfl) (by kernel_rfl)
          obtain rfl : x2 = .int .u32 n0 := f2
          obtain ⟨x4, t4, f4⟩ := hJ.dep hd 4 33 (by kernel_rfl) (by kernel_rfl)
          obtain rfl : x4 = .int .u32 n1 := f4
          have G := hJ.keep
          clear hJ hd hn
          go_wp2_with (go_at_call 27; ((with_reducible refine (svOf_is n0 n1 _ h0 h1 P1 Q1 HP1 HQ1).mono ?_); rintro _ w9 ⟨rfl, hk⟩))
          exact HK.out _ _ hk rfl
        · -- 6
          refine LinStep.plain rfl ?_
          intro QQ bb T ww hn hJ hd K HK
          have s7 := (hJ.oldSlot 7 (by kernel_rfl))
          simp only [List.getElem?_toArray, List.getElem?_cons_zero, List.getElem?_cons_succ] at s7
          have G := hJ.keep
          clear hJ hd hn
          go_simp
          exact HK.out _ _ (Keep.refl _) rfl
        · -- 7
          refine LinStep.plain rfl ?_
          intro QQ bb T ww hn hJ hd K HK
          obtain ⟨x6, t6, f6⟩ := hJ.dep hd 6 35 (by kernel_rfl) (by kernel_rfl)
          obtain rfl : x6 = .pointer (some ⟨BG + 1 + 1, 0, none⟩) := f6
          have G := hJ.keep
          clear hJ hd hn
          have k0 := G.some e0
          go_simp
          exact HK.out _ _ (Keep.refl _) rfl
        · -- 8
          refine LinStep.plain rfl ?_
          intro QQ bb T ww hn hJ hd K HK
          obtain ⟨x7, t7, f7⟩ := hJ.dep hd 7 36 (by kernel_rfl) (by kernel_rfl)
          obtain rfl : x7 = .int .u32 n0 := f7
          have G := hJ.keep
          clear hJ hd hn
          go_wp2
          exact HK.out _ _ (Keep.refl _) rfl
        · -- 9
          refine LinStep.plain rfl ?_
          intro QQ bb T ww hn hJ hd K HK
          obtain ⟨x8, t8, f8⟩ := hJ.dep hd 8 37 (by kernel_rfl) (by kernel_rfl)
          obtain rfl : x8 = .int .u32 (n0 % 22) := f8
          have G := hJ.keep
          clear hJ hd hn
          go_wp2
          exact HK.out _ _ (Keep.refl _) (⟨_, rfl⟩)
        · -- 10
          refine LinStep.plain rfl ?_
          intro QQ bb T ww hn hJ hd K HK
          have s7 := (hJ.oldSlot 7 (by kernel_rfl))
          simp only [List.getElem?_toArray, List.getElem?_cons_zero, List.getElem?_cons_succ] at s7
          have G := hJ.keep
          clear hJ hd hn
          go_simp
          exact HK.out _ _ (Keep.refl _) rfl
        · -- 11
          refine LinStep.plain rfl ?_
          intro QQ bb T ww hn hJ hd K HK
          obtain ⟨x10, t10, f10⟩ := hJ.dep hd 10 39 (by kernel_rfl) (by kernel_rfl)
          obtain rfl : x10 = .pointer (some ⟨BG + 1 + 1, 1, none⟩) := f10
          have G := hJ.keep
          clear hJ hd hn
          have k0 := G.some e1
          go_simp
          exact HK.out _ _ (Keep.refl _) rfl
        · -- 12
          refine LinStep.plain rfl ?_
          intro QQ bb T ww hn hJ hd K HK
          obtain ⟨x11, t11, f11⟩ := hJ.dep hd 11 40 (by kernel_rfl) (by kernel_rfl)
          obtain rfl : x11 = .int .u32 n1 := f11
          have G := hJ.keep
          clear hJ hd hn
          go_wp2
          exact HK.out _ _ (Keep.refl _) rfl
        · -- 13
          refine LinStep.plain rfl ?_
          intro QQ bb T ww hn hJ hd K HK
          obtain ⟨x12, t12, f12⟩ := hJ.dep hd 12 41 (by kernel_rfl) (by kernel_rfl)
          obtain rfl : x12 = .int .u32 (n1 % 300) := f12
          have G := hJ.keep
          clear hJ hd hn
          go_wp2
          exact HK.out _ _ (Keep.refl _) rfl
        · -- 14
          refine LinStep.plain rfl ?_
          intro QQ bb T ww hn hJ hd K HK
          obtain ⟨x9, t9, f9⟩ := hJ.dep hd 9 38 (by kernel_rfl) (by kernel_rfl)
          replace f9 : ∃ T : Int, x9 = .int .i64 T := f9
          obtain ⟨T9, rfl⟩ := f9
          obtain ⟨x13, t13, f13⟩ := hJ.dep hd 13 42 (by kernel_rfl) (by kernel_rfl)
          obtain rfl : x13 = .int .i64 (n1 % 300) := f13
          have G := hJ.keep
          clear hJ hd hn
          go_simp
          exact HK.out _ _ (Keep.refl _) (⟨_, rfl⟩)
        · -- 15
          refine LinStep.plain rfl ?_
          intro QQ bb T ww hn hJ hd K HK
          obtain ⟨x0, t0, f0⟩ := hJ.dep hd 0 29 (by kernel_rfl) (by kernel_rfl)
          obtain rfl : x0 = .agg #[.int .i64 s0, .int .i64 s1] := f0
          obtain ⟨x5, t5, f5⟩ := hJ.dep hd 5 34 (by kernel_rfl) (by kernel_rfl)
          obtain rfl : x5 = .agg #[.int .i64 P1, .int .i64 Q1] := f5
          obtain ⟨x14, t14, f14⟩ := hJ.dep hd 14 43 (by kernel_rfl) (by kernel_rfl)
          replace f14 : ∃ T : Int, x14 = .agg #[.int .i64 T, .int .i64 (n1 % 300)] := f14
          obtain ⟨T14, rfl⟩ := f14
          have G := hJ.keep
          clear hJ hd hn
          go_simp
          exact HK.out _ _ (Keep.refl _) (⟨_, rfl⟩)
        · -- 16
          refine LinStep.plain rfl ?_
          intro QQ bb T ww hn hJ hd K HK
          have G := hJ.keep
          clear hJ hd hn
          go_simp
          exact HK.out _ _ (Keep.refl _) rfl
    · obtain rfl : i = 2 := by omega
      go_wp2_with (go_at_call 32; ((with_reducible refine (works4_yes _).mono ?_); rintro _ wk ⟨rfl, kw⟩))
      go_ret
      exact ⟨rfl, KK.out.trans kw⟩

theorem lawDrains_any (v Dv : Value) (l0 : List (Int × Int)) (B R : Int) (gs ss : List Int) (s0 s1 n0 n1 : Int) (w : World) (hv : RowAt w v l0) (h : DraftAt w Dv B R gs ss) (hn0 : 0 ≤ n0 ∧ n0 ≤ 4294967295) (hn1 : 0 ≤ n1 ∧ n1 ≤ 4294967295) :
    Calls Try.prog 8 #[v, Dv, .agg #[.int .i64 s0, .int .i64 s1], .agg #[.int .u32 n0, .int .u32 n1]] w (Res (.bool true) w) := by
  have h' := h
  obtain ⟨⟨g, s, rfl, h1, h2⟩, h3, h4⟩ := h
  obtain ⟨ga, gl, gc, rfl, -⟩ := h1.form
  obtain ⟨sa, sl, sc, rfl, -⟩ := h2.form
  obtain ⟨a0, n, cap, rfl⟩ := hv.slice
  exact drains_walk B R ga sa gl gc sl sc gs ss a0 n cap (min n 40) l0 s0 s1 n0 n1 w (Lib.hid hv) (by omega) (by omega) (Lib.hid h') _ (Lib.hid rfl) hn0 hn1

end Go.Proofs.Ytmamadgikjkjdaa
