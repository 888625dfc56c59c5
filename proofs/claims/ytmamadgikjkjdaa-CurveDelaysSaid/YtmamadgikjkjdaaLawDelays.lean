/- CurveDelays' walk: Delay of the program and of the reference return the same. -/
import Derived.Test.YtmamadgikjkjdaaRefDelay
import Derived.Test.YtmamadgikjkjdaaWorks4
import Derived.Test.YtmamadgikjkjdaaAppendRow
import Derived.Test.YtmamadgikjkjdaaDraftsArg
import Derived.Test.YtmamadgikjkjdaaLawDrains
namespace Go.Proofs.Ytmamadgikjkjdaa
open Go Go.RowKit

theorem infoBucket : (Try.prog.info? 30).map (fun i => (i.zero, i.size, i.bytes)) = some (some (.agg #[.int .i64 0, .int .i64 0]), 2, 16) := by kernel_rfl
theorem bucketsCut (a : Option Addr) (n cap m : Nat) (h : m ≤ cap) (w : World) : (Instr.slice 39 (.slice a n cap) none (some (.int .i64 (m : Int))) none).run Try.prog w = .ok (.slice a m cap) w :=
  sliceAny _ (fun w => by simp [go_sem]) (by kernel_rfl) a n cap m h w
/-- The buckets of the first k drafts. -/
def bksL (Bf Rf : Nat → Int) (k : Nat) : List (Int × Int) := (List.range k).map fun j => (bOf (Bf j), rOf (Rf j))
theorem bksL_succ (Bf Rf : Nat → Int) (k : Nat) : bksL Bf Rf (k + 1) = bksL Bf Rf k ++ [(bOf (Bf k), rOf (Rf k))] := by unfold bksL; rw [List.range_succ, List.map_append]; rfl
theorem bksL_len (Bf Rf : Nat → Int) (k : Nat) : (bksL Bf Rf k).length = k := by simp [bksL]
theorem bksL_sz (Bf Rf : Nat → Int) {k j : Nat} (h : j < k) : 1 ≤ szL (bksL Bf Rf k) j ∧ szL (bksL Bf Rf k) j ≤ 2097152 := by
  have e : szL (bksL Bf Rf k) j = rOf (Rf j) := by unfold bksL szL; simp [List.getD, h]
  rw [e]; unfold rOf; omega
theorem ownsLit1 (w : World) (x y : Int) (e : TypeId) : (w.alloc (.cells #[.int .i64 x, .int .i64 y] e)).ownsRow w.heap.size e 2 (.slice (some ⟨w.heap.size, 0, none⟩) 1 1) 1 [.int .i64 x, .int .i64 y] := by
  have := World.ownsRow_lit (base := w.heap.size) (size := 2) (e := e) w #[.int .i64 x, .int .i64 y] 1 (Nat.le_refl _) (by unfold maxLen; omega) (by simp)
  simpa using this
theorem ownsLitN (w : World) (e : TypeId) : (w.alloc (.cells #[] e)).ownsRow w.heap.size e 2 (.slice (some ⟨w.heap.size, 0, none⟩) 0 0) 0 [] := by
  have := World.ownsRow_lit (base := w.heap.size) (size := 2) (e := e) w #[] 0 (Nat.le_refl _) (by unfold maxLen; omega) (by simp)
  simpa using this

set_option maxRecDepth 100000 in
set_option maxHeartbeats 8000000 in
theorem delays_walk (a0 : Option Addr) (n cap m : Nat) (l0 : List (Int × Int)) (da : Option Addr) (dn dc : Nat) (Bf Rf : Nat → Int) (s0 s1 n0 n1 b0 b1 : Int) (w : World) (hRow : Hid (RowAt w (.slice a0 n cap) l0)) (hmn : m ≤ n) (hmin : min (n : Int) 13 = (m : Int)) (hD : Hid (DraftsAt w da dn Bf Rf)) (h0 : 0 ≤ n0 ∧ n0 ≤ 4294967295) (h1 : 0 ≤ n1 ∧ n1 ≤ 4294967295) :
    Calls Try.prog 6 #[.slice a0 n cap, .slice da dn dc, .agg #[.int .i64 s0, .int .i64 s1], .agg #[.int .u32 n0, .int .u32 n1], .agg #[.int .i64 b0, .int .i64 b1]] w (Res (.bool true) w) := by
  have KK := Lib.hid (((Keep.alloc (Keep.refl w) (.cells #[.int .i64 s0, .int .i64 s1] 54)).alloc (.cells #[.int .u32 n0, .int .u32 n1] 64)).alloc (.cells #[.int .i64 b0, .int .i64 b1] 30))
  have HD := Lib.hid (hD.out.keep KK.out)
  have hcut := rowCut hRow.out hmn
  have hsl : ∀ w', (Instr.slice 39 (.slice a0 n cap) none (some (.int .i64 (m : Int))) none).run Try.prog w' = .ok (.slice a0 m cap) w' := fun w' => bucketsCut a0 n cap m (by omega) w'
  have hsa : ∀ w', (Instr.sliceAt 39 (.slice a0 n cap) none (some (.int .i64 (m : Int))) none).run Try.prog w' = .ok (.slice a0 m cap) w' := fun w' => by
    rw [run_sliceAt_slice (h := by kernel_rfl)]; exact hsl w'
  have RL := Lib.hid (hcut.1.keep KK.out)
  obtain ⟨lm, hlm⟩ : ∃ lm, l0.take m = lm := ⟨_, rfl⟩
  rw [hlm] at RL
  have hll : lm.length ≤ 13 := by rw [← hlm, List.length_take]; omega
  obtain ⟨i0, hi0, hz0, hz1, hz2⟩ := info_parts infoBucket
  clear hD hRow hcut hlm
  have c0 : (((w.alloc (.cells #[.int .i64 s0, .int .i64 s1] 54)).alloc (.cells #[.int .u32 n0, .int .u32 n1] 64)).alloc (.cells #[.int .i64 b0, .int .i64 b1] 30)).cell? ⟨w.heap.size, 0, none⟩ = some (.int .i64 s0) := by simp [go_sem]
  have c1 : (((w.alloc (.cells #[.int .i64 s0, .int .i64 s1] 54)).alloc (.cells #[.int .u32 n0, .int .u32 n1] 64)).alloc (.cells #[.int .i64 b0, .int .i64 b1] 30)).cell? ⟨w.heap.size, 1, none⟩ = some (.int .i64 s1) := by simp [go_sem]
  have e0 : (((w.alloc (.cells #[.int .i64 s0, .int .i64 s1] 54)).alloc (.cells #[.int .u32 n0, .int .u32 n1] 64)).alloc (.cells #[.int .i64 b0, .int .i64 b1] 30)).cell? ⟨w.heap.size + 1, 0, none⟩ = some (.int .u32 n0) := by simp [go_sem]
  have e1 : (((w.alloc (.cells #[.int .i64 s0, .int .i64 s1] 54)).alloc (.cells #[.int .u32 n0, .int .u32 n1] 64)).alloc (.cells #[.int .i64 b0, .int .i64 b1] 30)).cell? ⟨w.heap.size + 1, 1, none⟩ = some (.int .u32 n1) := by simp [go_sem]
  have h0' : (((w.alloc (.cells #[.int .i64 s0, .int .i64 s1] 54)).alloc (.cells #[.int .u32 n0, .int .u32 n1] 64)).alloc (.cells #[.int .i64 b0, .int .i64 b1] 30)).cell? ⟨w.heap.size + 1 + 1, 0, none⟩ = some (.int .i64 b0) := by simp [go_sem]
  have h1' : (((w.alloc (.cells #[.int .i64 s0, .int .i64 s1] 54)).alloc (.cells #[.int .u32 n0, .int .u32 n1] 64)).alloc (.cells #[.int .i64 b0, .int .i64 b1] 30)).cell? ⟨w.heap.size + 1 + 1, 1, none⟩ = some (.int .i64 b1) := by simp [go_sem]
  obtain ⟨P1, hP1⟩ : ∃ X, 1 + n0 % 2097152 = X := ⟨_, rfl⟩
  obtain ⟨Q1, hQ1⟩ : ∃ X, n1 % 268435457 = X := ⟨_, rfl⟩
  have HP1 := Lib.hid hP1
  have HQ1 := Lib.hid hQ1
  clear hP1 hQ1
  obtain ⟨BG, hBG⟩ : ∃ BG, w.heap.size = BG := ⟨_, rfl⟩
  obtain ⟨W0, hW0⟩ : ∃ W0, ((w.alloc (.cells #[.int .i64 s0, .int .i64 s1] 54)).alloc (.cells #[.int .u32 n0, .int .u32 n1] 64)).alloc (.cells #[.int .i64 b0, .int .i64 b1] 30) = W0 := ⟨_, rfl⟩
  rw [hBG] at c0 c1 e0 e1 h0' h1'
  rw [hW0] at c0 c1 e0 e1 h0' h1' KK HD RL
  go_enter Try.func6, Try.ntmps6
  go_wp2_with fail
  try rw [hBG]
  try rw [hW0]
  clear hW0 hBG
  go_at_call 27
  refine (svOf_is n0 n1 _ h0 h1 P1 Q1 HP1 HQ1).mono ?_
  rintro _ w1 ⟨rfl, k1⟩
  have c0 := k1.some (by first | exact c0 | exact cell_alloc_old _ c0 | exact cell_alloc_old _ (cell_alloc_old _ c0) | exact cell_alloc_old _ (cell_alloc_old _ (cell_alloc_old _ c0)))
  have c1 := k1.some (by first | exact c1 | exact cell_alloc_old _ c1 | exact cell_alloc_old _ (cell_alloc_old _ c1) | exact cell_alloc_old _ (cell_alloc_old _ (cell_alloc_old _ c1)))
  have e0 := k1.some (by first | exact e0 | exact cell_alloc_old _ e0 | exact cell_alloc_old _ (cell_alloc_old _ e0) | exact cell_alloc_old _ (cell_alloc_old _ (cell_alloc_old _ e0)))
  have e1 := k1.some (by first | exact e1 | exact cell_alloc_old _ e1 | exact cell_alloc_old _ (cell_alloc_old _ e1) | exact cell_alloc_old _ (cell_alloc_old _ (cell_alloc_old _ e1)))
  have h0' := k1.some (by first | exact h0' | exact cell_alloc_old _ h0' | exact cell_alloc_old _ (cell_alloc_old _ h0') | exact cell_alloc_old _ (cell_alloc_old _ (cell_alloc_old _ h0')))
  have h1' := k1.some (by first | exact h1' | exact cell_alloc_old _ h1' | exact cell_alloc_old _ (cell_alloc_old _ h1') | exact cell_alloc_old _ (cell_alloc_old _ (cell_alloc_old _ h1')))
  have HD := Lib.hid (by first | exact HD.out.keep k1 | exact HD.out.keep ((Keep.alloc (Keep.refl _) _).trans k1) | exact HD.out.keep (((Keep.alloc (Keep.refl _) _).alloc _).trans k1) | exact HD.out.keep ((((Keep.alloc (Keep.refl _) _).alloc _).alloc _).trans k1))
  have RL := Lib.hid (by first | exact RL.out.keep k1 | exact RL.out.keep ((Keep.alloc (Keep.refl _) _).trans k1) | exact RL.out.keep (((Keep.alloc (Keep.refl _) _).alloc _).trans k1) | exact RL.out.keep ((((Keep.alloc (Keep.refl _) _).alloc _).alloc _).trans k1))
  have KK := Lib.hid (by first | exact KK.out.trans k1 | exact (KK.out.alloc _).trans k1 | exact ((KK.out.alloc _).alloc _).trans k1 | exact (((KK.out.alloc _).alloc _).alloc _).trans k1)
  have hc0 := cellBlock c0
  have he0 := cellBlock e0
  go_wp2
  have f0 : (w1.alloc (.cells #[.int .i64 P1, .int .i64 Q1] 54)).cell? ⟨w1.heap.size, 0, none⟩ = some (.int .i64 P1) := by simp [go_sem]
  have f1 : (w1.alloc (.cells #[.int .i64 P1, .int .i64 Q1] 54)).cell? ⟨w1.heap.size, 1, none⟩ = some (.int .i64 Q1) := by simp [go_sem]
  have c0 := cell_alloc_old (.cells #[.int .i64 P1, .int .i64 Q1] 54) c0
  have c1 := cell_alloc_old (.cells #[.int .i64 P1, .int .i64 Q1] 54) c1
  have e0 := cell_alloc_old (.cells #[.int .i64 P1, .int .i64 Q1] 54) e0
  have e1 := cell_alloc_old (.cells #[.int .i64 P1, .int .i64 Q1] 54) e1
  have h0' := cell_alloc_old (.cells #[.int .i64 P1, .int .i64 Q1] 54) h0'
  have h1' := cell_alloc_old (.cells #[.int .i64 P1, .int .i64 Q1] 54) h1'
  have HD := Lib.hid (HD.out.keep (Keep.alloc (Keep.refl _) (.cells #[.int .i64 P1, .int .i64 Q1] 54)))
  have RL := Lib.hid (RL.out.keep (Keep.alloc (Keep.refl _) (.cells #[.int .i64 P1, .int .i64 Q1] 54)))
  have KK := Lib.hid (KK.out.alloc (.cells #[.int .i64 P1, .int .i64 Q1] 54))
  obtain ⟨B11, hB11⟩ : ∃ B, w1.heap.size = B := ⟨_, rfl⟩
  obtain ⟨W2, hW2⟩ : ∃ W2, w1.alloc (.cells #[.int .i64 P1, .int .i64 Q1] 54) = W2 := ⟨_, rfl⟩
  rw [hB11] at f0 f1
  try rw [hB11]
  rw [hW2] at c0 c1 e0 e1 h0' h1' f0 f1 HD RL KK
  try rw [hW2]
  clear hW2 hB11 hsl hsa
  go_loopw [12, 13] (fun s12 s13 wr => ∃ k : Nat, k ≤ dn ∧ k ≤ 6 ∧ s13 = .int .i64 (k : Int) ∧ Hid (wr.ownsRow W2.heap.size 30 2 s12 k (cellsL (bksL Bf Rf k)) ∧ Keep W2 wr)) (fun _ i _ => 6 - (intOf i).toNat)
  case atStart => exact ⟨0, by omega, by omega, rfl, Lib.hid ⟨World.ownsRow_nil _ _ _ _, Keep.refl _⟩⟩
  case round =>
    obtain ⟨k, hk, hk6, rfl, HR⟩ := hrel
    by_cases hlt : k < dn ∧ k < 6
    · obtain ⟨hl1, hl2⟩ := hlt
      have hl1' : (k : Int) < (dn : Int) := by omega
      have hl2' : (k : Int) < 6 := by omega
      obtain ⟨b, off, ga, sa, gl, gc, sl, sc, rfl, d0, d1, d2, d3, bB, bR⟩ := HD.out.2 k hl1
      have d0 := HR.out.2.some d0
      have d1 := HR.out.2.some d1
      have d2 := HR.out.2.some d2
      have d3 := HR.out.2.some d3
      have HN := Lib.hid (bksL_succ Bf Rf k)
      obtain ⟨Bk, hBk⟩ : ∃ B, Bf k = B := ⟨_, rfl⟩
      obtain ⟨Rk, hRk⟩ : ∃ R, Rf k = R := ⟨_, rfl⟩
      rw [hBk, hRk] at HN
      rw [hBk] at d0 bB
      rw [hRk] at d1 bR
      obtain ⟨X, hX⟩ : ∃ X, bOf Bk = X := ⟨_, rfl⟩
      obtain ⟨Y, hY⟩ : ∃ Y, rOf Rk = Y := ⟨_, rfl⟩
      rw [hX, hY] at HN
      have HX := Lib.hid hX
      have HY := Lib.hid hY
      have hdb := cellBlock d0
      have hmin2 : k + 1 ≤ 6 := by omega
      clear hBk hRk hX hY
      go_wp2_with (first | (go_at_call 16; ((with_reducible refine (draftBucket_slices Bk Rk ga sa gl gc sl sc _ bB bR X Y HX HY).mono ?_); rintro _ w3 ⟨rfl, k3⟩)) | (at_builtin; refine wpList_appendL rfl _ _ 39 rfl W2.heap.size 30 i0 (.agg #[.int .i64 0, .int .i64 0]) Try.underlying39 hi0 hz0 hz1 hz2 rfl _ k _ rfl (ownsKeep HR.out.1 (k3.alloc _)) _ [(X, Y)] rfl (rowOne _ X Y _) (by simp; omega) W2 ((HR.out.2.trans k3).alloc _) rfl ?_; intro v4 w4 hown4 hk4))
      go_roundw
      case rel => exact ⟨k + 1, by omega, by omega, by go_num, Lib.hid ⟨by rw [HN.out, cellsL_append]; exact hown4, hk4⟩⟩
      case measure => simp [intOf]; omega
    · have hcond : ¬ ((k : Int) < (dn : Int)) ∨ ((k : Int) < (dn : Int) ∧ ¬ ((k : Int) < 6)) := by omega
      clear HD
      obtain ⟨lk, hlk⟩ : ∃ lk, bksL Bf Rf k = lk := ⟨_, rfl⟩
      have hlkn : lk.length = k := by rw [← hlk]; exact bksL_len Bf Rf k
      rw [hlk] at HR
      have hro := rowAtOwns HR.out.1
      obtain ⟨a12, c12, rfl, hform⟩ := hro.form
      rw [hlkn] at HR hform ⊢
      rw [hlkn] at hro
      have HF := Lib.hid hform
      have HO := Lib.hid hro
      have KW := Lib.hid HR.out.2
      have HLB : Hid (∀ j, j < k → 1 ≤ szL lk j ∧ szL lk j ≤ 2097152) := Lib.hid fun j hj => by rw [← hlk]; exact bksL_sz Bf Rf hj
      clear hlk hform hro
      rcases hcond with hc1 | ⟨hc1, hc2⟩
      · have c0 := KW.out.some c0
        have c1 := KW.out.some c1
        have e0 := KW.out.some e0
        have e1 := KW.out.some e1
        have h0' := KW.out.some h0'
        have h1' := KW.out.some h1'
        have f0 := KW.out.some f0
        have f1 := KW.out.some f1
        have hf0 := cellBlock f0
        go_upto_region 9 with fail
        clear hf0
        have G8 := Keep.alloc (Keep.refl wr) (.cells #[.int .i64 P1, .int .i64 Q1] 54)
        have K8 := Lib.hid KW.out
        have RL := Lib.hid (RL.out.keep KW.out)
        have KK := Lib.hid (KK.out.trans KW.out)
        have g0 : (wr.alloc (.cells #[.int .i64 P1, .int .i64 Q1] 54)).cell? ⟨wr.heap.size, 0, none⟩ = some (.int .i64 P1) := by simp [go_sem]
        have g1 : (wr.alloc (.cells #[.int .i64 P1, .int .i64 Q1] 54)).cell? ⟨wr.heap.size, 1, none⟩ = some (.int .i64 Q1) := by simp [go_sem]
        have z0 : (wr.alloc (.cells #[.int .i64 P1, .int .i64 Q1] 54)).frozen? ⟨wr.heap.size, 0, none⟩ = false := by simp [go_sem]
        obtain ⟨WX, hWX⟩ : ∃ WX, wr = WX := ⟨_, rfl⟩
        rw [hWX] at c0 c1 e0 e1 h0' h1' f0 f1 RL KK HO HF G8 g0 g1 z0
        try rw [hWX]
        obtain ⟨B14, hB14⟩ : ∃ B, WX.heap.size = B := ⟨_, rfl⟩
        rw [hB14] at g0 g1 z0
        try rw [hB14]
        obtain ⟨W8, hW8⟩ : ∃ W, WX.alloc (.cells #[.int .i64 P1, .int .i64 Q1] 54) = W := ⟨_, rfl⟩
        rw [hW8] at G8 g0 g1 z0
        try rw [hW8]
        clear hW8 hWX KW K8 HR
        rcases Nat.eq_zero_or_pos k with hk0 | hkp
        · have hk0' : ¬ (0 : Int) < (k : Int) := by omega
          clear hk0
          obtain ⟨W9, hW9⟩ : ∃ W, W8 = W := ⟨_, rfl⟩
          have G9 := G8
          obtain ⟨F0, hF0⟩ : ∃ X, P1 = X := ⟨_, rfl⟩
          rw [hF0] at g0
          rw [hW9] at G9 g0 g1
          try rw [hW9]
          clear hW9 G8 z0 hF0
          go_upto_region 11 with fail
          have c0 := G9.some c0
          have c1 := G9.some c1
          have e0 := G9.some e0
          have e1 := G9.some e1
          have h0' := G9.some h0'
          have h1' := G9.some h1'
          have f0 := G9.some f0
          have f1 := G9.some f1
          have RL := Lib.hid (RL.out.keep G9)
          have RK := Lib.hid (HO.out.keep G9)
          have KK := Lib.hid (KK.out.trans G9)
          clear HO HF G9
          go_wp2_with (first | (at_builtin; refine wpList_appendL rfl _ _ 39 rfl W9.heap.size 30 i0 (.agg #[.int .i64 0, .int .i64 0]) Try.underlying39 hi0 hz0 hz1 hz2 rfl _ 1 _ rfl (ownsLit1 W9 b0 b1 30) _ lk rfl (RK.out.keep (Keep.alloc (Keep.refl _) _)) (by first | omega | (simp; omega)) W9 (Keep.alloc (Keep.refl _) _) rfl ?_; intro v75 w75 hown75 hk75; have R75 := rowAtOwns (l := (b0, b1) :: lk) hown75; obtain ⟨a75, c75, rfl, -⟩ := R75.form; obtain ⟨n75, hn75⟩ : ∃ x, ((b0, b1) :: lk).length = x := ⟨_, rfl⟩; rw [hn75] at R75 ⊢) | (at_builtin; refine wpList_appendL rfl _ _ 39 rfl w75.heap.size 30 i0 (.agg #[.int .i64 0, .int .i64 0]) Try.underlying39 hi0 hz0 hz1 hz2 rfl _ 0 _ rfl (ownsLitN w75 30) _ lk rfl (RK.out.keep (hk75.trans (Keep.alloc (Keep.refl _) _))) (by first | omega | (simp; omega)) w75 (Keep.alloc (Keep.refl _) _) rfl ?_; intro v78 w78 hown78 hk78) | (at_builtin; refine wpList_appendL rfl _ _ 39 rfl w75.heap.size 30 i0 (.agg #[.int .i64 0, .int .i64 0]) Try.underlying39 hi0 hz0 hz1 hz2 rfl _ _ _ rfl (hown78) _ lm rfl (RL.out.keep (hk75.trans hk78)) (by first | omega | (simp; omega)) w75 (hk78) rfl ?_; intro v80 w80 hown80 hk80; have R80 := rowAtOwns (l := lk ++ lm) (by rw [cellsL_append]; simpa using hown80); obtain ⟨a80, c80, rfl, -⟩ := R80.form; obtain ⟨n80, hn80⟩ : ∃ x, (lk ++ lm).length = x := ⟨_, rfl⟩; rw [hn80] at R80 ⊢))
          have hk := hk75.trans hk80
          have c0 := hk.some c0
          have c1 := hk.some c1
          have f0 := hk.some f0
          have f1 := hk.some f1
          have g0 := hk.some g0
          have g1 := hk.some g1
          have HIX : Hid (∀ i : Nat, i < 4 → ∃ aa nn cc ll, (∀ w', (Instr.index 65 (.agg #[.slice a0 m cap, .slice a12 k c12, .slice a75 n75 c75, .slice a80 n80 c80]) (.int .i64 (i : Int))).run Try.prog w' = .ok (.slice aa nn cc) w') ∧ RowAt w80 (.slice aa nn cc) ll) := Lib.hid fun i hi => by
            obtain rfl | rfl | rfl | rfl : i = 0 ∨ i = 1 ∨ i = 2 ∨ i = 3 := by omega
            · exact ⟨a0, m, cap, _, fun w' => by kernel_rfl, RL.out.keep hk⟩
            · exact ⟨a12, k, c12, _, fun w' => by kernel_rfl, RK.out.keep hk⟩
            · exact ⟨a75, n75, c75, _, fun w' => by kernel_rfl, R75.keep hk80⟩
            · exact ⟨a80, n80, c80, _, fun w' => by kernel_rfl, R80⟩
          have HJX : Hid (∀ i : Nat, i < 3 → ∃ k0 k1 : Int, ∀ w', (Instr.index 66 (.agg #[.int .i64 s0, .int .i64 s1, .int .i64 P1, .int .i64 Q1, .int .i64 F0, .int .i64 Q1]) (.int .i64 (i : Int))).run Try.prog w' = .ok (.agg #[.int .i64 k0, .int .i64 k1]) w') := Lib.hid fun i hi => by
            obtain rfl | rfl | rfl : i = 0 ∨ i = 1 ∨ i = 2 := by omega
            · exact ⟨s0, s1, fun w' => by kernel_rfl⟩
            · exact ⟨P1, Q1, fun w' => by kernel_rfl⟩
            · exact ⟨F0, Q1, fun w' => by kernel_rfl⟩
          have KK := Lib.hid (KK.out.trans hk)
          clear hk hk75 hk78 hk80 hown75 hown78 hown80 R75 R80 RL RK e0 e1 h0' h1' hn75 hn80
          go_wp2
          go_loopw [82] (fun s82 wr => ∃ i : Nat, i ≤ 4 ∧ s82 = .int .i64 (i : Int) ∧ Hid (Keep w80 wr)) (fun i _ => 4 - (intOf i).toNat)
          case atStart => exact ⟨0, by omega, rfl, Lib.hid (Keep.refl _)⟩
          case round =>
            obtain ⟨i, hi, rfl, HR⟩ := hrel
            have KK := Lib.hid (KK.out.trans HR.out)
            by_cases hlt : i < 4
            · obtain ⟨aa, nn, cc, ll, hix, hrow⟩ := HIX.out i hlt
              have RW := Lib.hid (hrow.keep HR.out)
              have hlt' : (i : Int) < 4 := by omega
              have c0 := HR.out.some c0
              have c1 := HR.out.some c1
              have f0 := HR.out.some f0
              have f1 := HR.out.some f1
              have g0 := HR.out.some g0
              have g1 := HR.out.some g1
              have hc0 := cellBlock c0
              have hf0 := cellBlock f0
              have hg0 := cellBlock g0
              clear hrow
              obtain ⟨W4, hW4⟩ : ∃ W4, wr = W4 := ⟨_, rfl⟩
              rw [hW4] at c0 c1 f0 f1 g0 g1 HR RW hc0 hf0 hg0
              try rw [hW4]
              clear hW4 KK
              go_wp2
              clear c0 c1 f0 f1 g0 g1 hc0 hf0 hg0 hix
              go_loopw [89] (fun s89 wr2 => ∃ j : Nat, j ≤ 3 ∧ s89 = .int .i64 (j : Int) ∧ Hid (Keep W4 wr2)) (fun j _ => 3 - (intOf j).toNat)
              case atStart => exact ⟨0, by omega, rfl, Lib.hid (Keep.refl _)⟩
              case round =>
                obtain ⟨j, hj, rfl, KK⟩ := hrel
                by_cases hjlt : j < 3
                · obtain ⟨x0, x1, hjx⟩ := HJX.out j hjlt
                  have hjlt' : (j : Int) < 3 := by omega
                  have RW := Lib.hid (RW.out.keep KK.out)
                  obtain ⟨⟨z, E⟩, hv⟩ : ∃ r, delayR ll x0 x1 = r := ⟨_, rfl⟩
                  have H1 := Lib.hid hv
                  have ez : (z != z) = false := by simp
                  have eE : (E != E) = false := by simp
                  clear hv
                  go_wp2_with fail
                  go_at_call 33
                  refine (delay_is aa nn cc ll x0 x1 z E _ (Lib.hid (RW.out.keep (Keep.alloc (Keep.refl _) _))) H1).mono ?_
                  rintro _ w1 ⟨rfl, k1⟩
                  have y0 : w1.cell? ⟨wr.heap.size, 0, none⟩ = some (.int .i64 x0) := k1.some (by first | (simp [go_sem]; done) | exact cell_alloc_old _ (by simp [go_sem]) | exact cell_alloc_old _ (cell_alloc_old _ (by simp [go_sem])))
                  have y1 : w1.cell? ⟨wr.heap.size, 1, none⟩ = some (.int .i64 x1) := k1.some (by first | (simp [go_sem]; done) | exact cell_alloc_old _ (by simp [go_sem]) | exact cell_alloc_old _ (cell_alloc_old _ (by simp [go_sem])))
                  have RW := Lib.hid (by first | exact RW.out.keep k1 | exact RW.out.keep ((Keep.alloc (Keep.refl _) _).trans k1) | exact RW.out.keep (((Keep.alloc (Keep.refl _) _).alloc _).trans k1) | exact RW.out.keep ((((Keep.alloc (Keep.refl _) _).alloc _).alloc _).trans k1))
                  have KK := Lib.hid (by first | exact KK.out.trans k1 | exact (KK.out.alloc _).trans k1 | exact ((KK.out.alloc _).alloc _).trans k1 | exact (((KK.out.alloc _).alloc _).alloc _).trans k1)
                  have hy0 := cellBlock y0
                  go_wp2_with fail
                  go_at_call 34
                  refine (refDelay_is aa nn cc ll x0 x1 z E _ RW H1).mono ?_
                  rintro _ w2 ⟨rfl, k2⟩
                  have y0 := k2.some (by first | exact y0 | exact cell_alloc_old _ y0 | exact cell_alloc_old _ (cell_alloc_old _ y0) | exact cell_alloc_old _ (cell_alloc_old _ (cell_alloc_old _ y0)))
                  have y1 := k2.some (by first | exact y1 | exact cell_alloc_old _ y1 | exact cell_alloc_old _ (cell_alloc_old _ y1) | exact cell_alloc_old _ (cell_alloc_old _ (cell_alloc_old _ y1)))
                  have RW := Lib.hid (by first | exact RW.out.keep k2 | exact RW.out.keep ((Keep.alloc (Keep.refl _) _).trans k2) | exact RW.out.keep (((Keep.alloc (Keep.refl _) _).alloc _).trans k2) | exact RW.out.keep ((((Keep.alloc (Keep.refl _) _).alloc _).alloc _).trans k2))
                  have KK := Lib.hid (by first | exact KK.out.trans k2 | exact (KK.out.alloc _).trans k2 | exact ((KK.out.alloc _).alloc _).trans k2 | exact (((KK.out.alloc _).alloc _).alloc _).trans k2)
                  have hy0 := cellBlock y0
                  clear hjx
                  go_wp2
                  go_roundw
                  case rel => exact ⟨j + 1, by omega, rfl, KK⟩
                  case measure => simp [intOf]; omega
                · obtain rfl : j = 3 := by omega
                  have HR := Lib.hid (HR.out.trans KK.out)
                  go_wp2
                  go_roundw
                  case rel => exact ⟨i + 1, by omega, rfl, HR⟩
                  case measure => simp [intOf]; omega
            · obtain rfl : i = 4 := by omega
              go_wp2_with (go_at_call 32; ((with_reducible refine (works4_yes _).mono ?_); rintro _ wk ⟨rfl, kw⟩))
              go_ret
              exact ⟨rfl, KK.out.trans kw⟩
        · have hk0' : (0 : Int) < (k : Int) := by omega
          obtain ⟨b, off, ea, q0, q1⟩ := HF.out 0 (by omega)
          cases ea
          have q1 := G8.some q1
          obtain ⟨R0, hR0⟩ : ∃ R, szL lk 0 = R := ⟨_, rfl⟩
          rw [hR0] at q1
          have bR0 : 1 ≤ R0 ∧ R0 ≤ 2097152 := by rw [← hR0]; exact HLB.out 0 hkp
          have e1q := G8.some e1
          have hqb := cellBlock q1
          have q1 : W8.cell? ⟨b, off + 1, none⟩ = some (.int .i64 R0) := by simpa using q1
          clear hR0 q0
          go_upto_region 10 with fail
          refine region_tail (h := 11) (W0 := W8) (listF [fun v ww => v = .slice (some ⟨b, off, none⟩) k c12, fun v ww => v = .pointer (some ⟨b, off, none⟩), fun v ww => v = .pointer (some ⟨b, off + 1, none⟩), fun v ww => v = .int .i64 R0, fun v ww => v = .pointer (some ⟨BG + 1, 1, none⟩), fun v ww => v = .int .u32 n1, fun v ww => v = .int .u32 (n1 % 3), fun v ww => v = .int .i64 (n1 % 3), fun v ww => v = .int .i64 (R0 + n1 % 3), fun v ww => v = .int .i64 (min 2097152 (R0 + n1 % 3)), fun v ww => v = .pointer (some ⟨B14, 0, none⟩)]) (listF_stable _ ⟨fun _ _ _ _ h => h, fun _ _ _ _ h => h, fun _ _ _ _ h => h, fun _ _ _ _ h => h, fun _ _ _ _ h => h, fun _ _ _ _ h => h, fun _ _ _ _ h => h, fun _ _ _ _ h => h, fun _ _ _ _ h => h, fun _ _ _ _ h => h, fun _ _ _ _ h => h, trivial⟩) (by kernel_rfl) (by kernel_rfl) (by kernel_rfl) (by kernel_rfl) (by kernel_rfl) (by kernel_rfl) (Keep.refl _) ?done10 ?steps10
          case done10 =>
            intro T10 wz10 hJ
            obtain ⟨x0, t0, f0⟩ := hJ.fact 0 59 (by decide) (by kernel_rfl)
            obtain rfl : x0 = .slice (some ⟨b, off, none⟩) k c12 := f0
            obtain ⟨x1, t1, f1⟩ := hJ.fact 1 60 (by decide) (by kernel_rfl)
            obtain rfl : x1 = .pointer (some ⟨b, off, none⟩) := f1
            obtain ⟨x2, t2, f2⟩ := hJ.fact 2 61 (by decide) (by kernel_rfl)
            obtain rfl : x2 = .pointer (some ⟨b, off + 1, none⟩) := f2
            obtain ⟨x3, t3, f3⟩ := hJ.fact 3 62 (by decide) (by kernel_rfl)
            obtain rfl : x3 = .int .i64 R0 := f3
            obtain ⟨x4, t4, f4⟩ := hJ.fact 4 63 (by decide) (by kernel_rfl)
            obtain rfl : x4 = .pointer (some ⟨BG + 1, 1, none⟩) := f4
            obtain ⟨x5, t5, f5⟩ := hJ.fact 5 64 (by decide) (by kernel_rfl)
            obtain rfl : x5 = .int .u32 n1 := f5
            obtain ⟨x6, t6, f6⟩ := hJ.fact 6 65 (by decide) (by kernel_rfl)
            obtain rfl : x6 = .int .u32 (n1 % 3) := f6
            obtain ⟨x7, t7, f7⟩ := hJ.fact 7 66 (by decide) (by kernel_rfl)
            obtain rfl : x7 = .int .i64 (n1 % 3) := f7
            obtain ⟨x8, t8, f8⟩ := hJ.fact 8 67 (by decide) (by kernel_rfl)
            obtain rfl : x8 = .int .i64 (R0 + n1 % 3) := f8
            obtain ⟨x9, t9, f9⟩ := hJ.fact 9 68 (by decide) (by kernel_rfl)
            obtain rfl : x9 = .int .i64 (min 2097152 (R0 + n1 % 3)) := f9
            obtain ⟨x10, t10, f10⟩ := hJ.fact 10 69 (by decide) (by kernel_rfl)
            obtain rfl : x10 = .pointer (some ⟨B14, 0, none⟩) := f10
            have hfr := hJ.frameTo [(59, .slice (some ⟨b, off, none⟩) k c12), (60, .pointer (some ⟨b, off, none⟩)), (61, .pointer (some ⟨b, off + 1, none⟩)), (62, .int .i64 R0), (63, .pointer (some ⟨BG + 1, 1, none⟩)), (64, .int .u32 n1), (65, .int .u32 (n1 % 3)), (66, .int .i64 (n1 % 3)), (67, .int .i64 (R0 + n1 % 3)), (68, .int .i64 (min 2097152 (R0 + n1 % 3))), (69, .pointer (some ⟨B14, 0, none⟩))] (by simp [t0, t1, t2, t3, t4, t5, t6, t7, t8, t9, t10]) (by kernel_rfl)
            have G := hJ.keep
            clear hJ t0 t1 t2 t3 t4 t5 t6 t7 t8 t9 t10
            rw [hfr]
            clear hfr T10
            simp only [List.foldl_cons, List.foldl_nil, List.setIfInBounds_toArray, List.set_cons_zero, List.set_cons_succ, List.drop_succ_cons, List.drop_zero]
            have z0 := keepThaw G g0 z0
            have g0 := G.some g0
            have g1 := G.some g1
            obtain ⟨F0, hF0⟩ : ∃ X, min 2097152 (R0 + n1 % 3) = X := ⟨_, rfl⟩
            rw [hF0]
            clear hF0
            go_upto_region 11 with fail
            have G9 : Keep WX (wz10.setCell ⟨B14, 0, none⟩ (.int .i64 F0)) := (G8.trans G).setCell (Nat.le_of_eq hB14) _
            have g0 : (wz10.setCell ⟨B14, 0, none⟩ (.int .i64 F0)).cell? ⟨B14, 0, none⟩ = some (.int .i64 F0) := by simp [go_sem, g0]
            have g1 : (wz10.setCell ⟨B14, 0, none⟩ (.int .i64 F0)).cell? ⟨B14, 1, none⟩ = some (.int .i64 Q1) := by simp [go_sem, g1]
            obtain ⟨W9, hW9⟩ : ∃ W, wz10.setCell ⟨B14, 0, none⟩ (.int .i64 F0) = W := ⟨_, rfl⟩
            rw [hW9] at G9 g0 g1
            try rw [hW9]
            clear hW9 G z0 G8 e1q
            have c0 := G9.some c0
            have c1 := G9.some c1
            have e0 := G9.some e0
            have e1 := G9.some e1
            have h0' := G9.some h0'
            have h1' := G9.some h1'
            have f0 := G9.some f0
            have f1 := G9.some f1
            have RL := Lib.hid (RL.out.keep G9)
            have RK := Lib.hid (HO.out.keep G9)
            have KK := Lib.hid (KK.out.trans G9)
            clear HO HF G9
            go_wp2_with (first | (at_builtin; refine wpList_appendL rfl _ _ 39 rfl W9.heap.size 30 i0 (.agg #[.int .i64 0, .int .i64 0]) Try.underlying39 hi0 hz0 hz1 hz2 rfl _ 1 _ rfl (ownsLit1 W9 b0 b1 30) _ lk rfl (RK.out.keep (Keep.alloc (Keep.refl _) _)) (by first | omega | (simp; omega)) W9 (Keep.alloc (Keep.refl _) _) rfl ?_; intro v75 w75 hown75 hk75; have R75 := rowAtOwns (l := (b0, b1) :: lk) hown75; obtain ⟨a75, c75, rfl, -⟩ := R75.form; obtain ⟨n75, hn75⟩ : ∃ x, ((b0, b1) :: lk).length = x := ⟨_, rfl⟩; rw [hn75] at R75 ⊢) | (at_builtin; refine wpList_appendL rfl _ _ 39 rfl w75.heap.size 30 i0 (.agg #[.int .i64 0, .int .i64 0]) Try.underlying39 hi0 hz0 hz1 hz2 rfl _ 0 _ rfl (ownsLitN w75 30) _ lk rfl (RK.out.keep (hk75.trans (Keep.alloc (Keep.refl _) _))) (by first | omega | (simp; omega)) w75 (Keep.alloc (Keep.refl _) _) rfl ?_; intro v78 w78 hown78 hk78) | (at_builtin; refine wpList_appendL rfl _ _ 39 rfl w75.heap.size 30 i0 (.agg #[.int .i64 0, .int .i64 0]) Try.underlying39 hi0 hz0 hz1 hz2 rfl _ _ _ rfl (hown78) _ lm rfl (RL.out.keep (hk75.trans hk78)) (by first | omega | (simp; omega)) w75 (hk78) rfl ?_; intro v80 w80 hown80 hk80; have R80 := rowAtOwns (l := lk ++ lm) (by rw [cellsL_append]; simpa using hown80); obtain ⟨a80, c80, rfl, -⟩ := R80.form; obtain ⟨n80, hn80⟩ : ∃ x, (lk ++ lm).length = x := ⟨_, rfl⟩; rw [hn80] at R80 ⊢))
            have hk := hk75.trans hk80
            have c0 := hk.some c0
            have c1 := hk.some c1
            have f0 := hk.some f0
            have f1 := hk.some f1
            have g0 := hk.some g0
            have g1 := hk.some g1
            have HIX : Hid (∀ i : Nat, i < 4 → ∃ aa nn cc ll, (∀ w', (Instr.index 65 (.agg #[.slice a0 m cap, .slice (some ⟨b, off, none⟩) k c12, .slice a75 n75 c75, .slice a80 n80 c80]) (.int .i64 (i : Int))).run Try.prog w' = .ok (.slice aa nn cc) w') ∧ RowAt w80 (.slice aa nn cc) ll) := Lib.hid fun i hi => by
              obtain rfl | rfl | rfl | rfl : i = 0 ∨ i = 1 ∨ i = 2 ∨ i = 3 := by omega
              · exact ⟨a0, m, cap, _, fun w' => by kernel_rfl, RL.out.keep hk⟩
              · exact ⟨some ⟨b, off, none⟩, k, c12, _, fun w' => by kernel_rfl, RK.out.keep hk⟩
              · exact ⟨a75, n75, c75, _, fun w' => by kernel_rfl, R75.keep hk80⟩
              · exact ⟨a80, n80, c80, _, fun w' => by kernel_rfl, R80⟩
            have HJX : Hid (∀ i : Nat, i < 3 → ∃ k0 k1 : Int, ∀ w', (Instr.index 66 (.agg #[.int .i64 s0, .int .i64 s1, .int .i64 P1, .int .i64 Q1, .int .i64 F0, .int .i64 Q1]) (.int .i64 (i : Int))).run Try.prog w' = .ok (.agg #[.int .i64 k0, .int .i64 k1]) w') := Lib.hid fun i hi => by
              obtain rfl | rfl | rfl : i = 0 ∨ i = 1 ∨ i = 2 := by omega
              · exact ⟨s0, s1, fun w' => by kernel_rfl⟩
              · exact ⟨P1, Q1, fun w' => by kernel_rfl⟩
              · exact ⟨F0, Q1, fun w' => by kernel_rfl⟩
            have KK := Lib.hid (KK.out.trans hk)
            clear hk hk75 hk78 hk80 hown75 hown78 hown80 R75 R80 RL RK e0 e1 h0' h1' hn75 hn80
            go_wp2
            go_loopw [82] (fun s82 wr => ∃ i : Nat, i ≤ 4 ∧ s82 = .int .i64 (i : Int) ∧ Hid (Keep w80 wr)) (fun i _ => 4 - (intOf i).toNat)
            case atStart => exact ⟨0, by omega, rfl, Lib.hid (Keep.refl _)⟩
            case round =>
              obtain ⟨i, hi, rfl, HR⟩ := hrel
              have KK := Lib.hid (KK.out.trans HR.out)
              by_cases hlt : i < 4
              · obtain ⟨aa, nn, cc, ll, hix, hrow⟩ := HIX.out i hlt
                have RW := Lib.hid (hrow.keep HR.out)
                have hlt' : (i : Int) < 4 := by omega
                have c0 := HR.out.some c0
                have c1 := HR.out.some c1
                have f0 := HR.out.some f0
                have f1 := HR.out.some f1
                have g0 := HR.out.some g0
                have g1 := HR.out.some g1
                have hc0 := cellBlock c0
                have hf0 := cellBlock f0
                have hg0 := cellBlock g0
                clear hrow
                obtain ⟨W4, hW4⟩ : ∃ W4, wr = W4 := ⟨_, rfl⟩
                rw [hW4] at c0 c1 f0 f1 g0 g1 HR RW hc0 hf0 hg0
                try rw [hW4]
                clear hW4 KK
                go_wp2
                clear c0 c1 f0 f1 g0 g1 hc0 hf0 hg0 hix
                go_loopw [89] (fun s89 wr2 => ∃ j : Nat, j ≤ 3 ∧ s89 = .int .i64 (j : Int) ∧ Hid (Keep W4 wr2)) (fun j _ => 3 - (intOf j).toNat)
                case atStart => exact ⟨0, by omega, rfl, Lib.hid (Keep.refl _)⟩
                case round =>
                  obtain ⟨j, hj, rfl, KK⟩ := hrel
                  by_cases hjlt : j < 3
                  · obtain ⟨x0, x1, hjx⟩ := HJX.out j hjlt
                    have hjlt' : (j : Int) < 3 := by omega
                    have RW := Lib.hid (RW.out.keep KK.out)
                    obtain ⟨⟨z, E⟩, hv⟩ : ∃ r, delayR ll x0 x1 = r := ⟨_, rfl⟩
                    have H1 := Lib.hid hv
                    have ez : (z != z) = false := by simp
                    have eE : (E != E) = false := by simp
                    clear hv
                    go_wp2_with fail
                    go_at_call 33
                    refine (delay_is aa nn cc ll x0 x1 z E _ (Lib.hid (RW.out.keep (Keep.alloc (Keep.refl _) _))) H1).mono ?_
                    rintro _ w1 ⟨rfl, k1⟩
                    have y0 : w1.cell? ⟨wr.heap.size, 0, none⟩ = some (.int .i64 x0) := k1.some (by first | (simp [go_sem]; done) | exact cell_alloc_old _ (by simp [go_sem]) | exact cell_alloc_old _ (cell_alloc_old _ (by simp [go_sem])))
                    have y1 : w1.cell? ⟨wr.heap.size, 1, none⟩ = some (.int .i64 x1) := k1.some (by first | (simp [go_sem]; done) | exact cell_alloc_old _ (by simp [go_sem]) | exact cell_alloc_old _ (cell_alloc_old _ (by simp [go_sem])))
                    have RW := Lib.hid (by first | exact RW.out.keep k1 | exact RW.out.keep ((Keep.alloc (Keep.refl _) _).trans k1) | exact RW.out.keep (((Keep.alloc (Keep.refl _) _).alloc _).trans k1) | exact RW.out.keep ((((Keep.alloc (Keep.refl _) _).alloc _).alloc _).trans k1))
                    have KK := Lib.hid (by first | exact KK.out.trans k1 | exact (KK.out.alloc _).trans k1 | exact ((KK.out.alloc _).alloc _).trans k1 | exact (((KK.out.alloc _).alloc _).alloc _).trans k1)
                    have hy0 := cellBlock y0
                    go_wp2_with fail
                    go_at_call 34
                    refine (refDelay_is aa nn cc ll x0 x1 z E _ RW H1).mono ?_
                    rintro _ w2 ⟨rfl, k2⟩
                    have y0 := k2.some (by first | exact y0 | exact cell_alloc_old _ y0 | exact cell_alloc_old _ (cell_alloc_old _ y0) | exact cell_alloc_old _ (cell_alloc_old _ (cell_alloc_old _ y0)))
                    have y1 := k2.some (by first | exact y1 | exact cell_alloc_old _ y1 | exact cell_alloc_old _ (cell_alloc_old _ y1) | exact cell_alloc_old _ (cell_alloc_old _ (cell_alloc_old _ y1)))
                    have RW := Lib.hid (by first | exact RW.out.keep k2 | exact RW.out.keep ((Keep.alloc (Keep.refl _) _).trans k2) | exact RW.out.keep (((Keep.alloc (Keep.refl _) _).alloc _).trans k2) | exact RW.out.keep ((((Keep.alloc (Keep.refl _) _).alloc _).alloc _).trans k2))
                    have KK := Lib.hid (by first | exact KK.out.trans k2 | exact (KK.out.alloc _).trans k2 | exact ((KK.out.alloc _).alloc _).trans k2 | exact (((KK.out.alloc _).alloc _).alloc _).trans k2)
                    have hy0 := cellBlock y0
                    clear hjx
                    go_wp2
                    go_roundw
                    case rel => exact ⟨j + 1, by omega, rfl, KK⟩
                    case measure => simp [intOf]; omega
                  · obtain rfl : j = 3 := by omega
                    have HR := Lib.hid (HR.out.trans KK.out)
                    go_wp2
                    go_roundw
                    case rel => exact ⟨i + 1, by omega, rfl, HR⟩
                    case measure => simp [intOf]; omega
              · obtain rfl : i = 4 := by omega
                go_wp2_with (go_at_call 32; ((with_reducible refine (works4_yes _).mono ?_); rintro _ wk ⟨rfl, kw⟩))
                go_ret
                exact ⟨rfl, KK.out.trans kw⟩
          case steps10 =>
            refine LinSteps.cons (k := 0) ?_ (LinSteps.cons (k := 1) ?_ (LinSteps.cons (k := 2) ?_ (LinSteps.cons (k := 3) ?_ (LinSteps.cons (k := 4) ?_ (LinSteps.cons (k := 5) ?_ (LinSteps.cons (k := 6) ?_ (LinSteps.cons (k := 7) ?_ (LinSteps.cons (k := 8) ?_ (LinSteps.cons (k := 9) ?_ (LinSteps.cons (k := 10) ?_ (LinSteps.nil)))))))))))
            · -- 0
              refine LinStep.plain rfl ?_
              intro QQ bb T ww hn hJ hd K HK
              have s12 := (hJ.oldSlot 12 (by kernel_rfl))
              simp only [List.getElem?_toArray, List.getElem?_cons_zero, List.getElem?_cons_succ] at s12
              have G := hJ.keep
              clear hJ hd hn
              go_simp
              exact HK.out _ _ (Keep.refl _) rfl
            · -- 1
              refine LinStep.plain rfl ?_
              intro QQ bb T ww hn hJ hd K HK
              obtain ⟨x0, t0, f0⟩ := hJ.dep hd 0 59 (by kernel_rfl) (by kernel_rfl)
              obtain rfl : x0 = .slice (some ⟨b, off, none⟩) k c12 := f0
              have G := hJ.keep
              clear hJ hd hn
              go_wp2
              exact HK.out _ _ (Keep.refl _) rfl
            · -- 2
              refine LinStep.plain rfl ?_
              intro QQ bb T ww hn hJ hd K HK
              obtain ⟨x1, t1, f1⟩ := hJ.dep hd 1 60 (by kernel_rfl) (by kernel_rfl)
              obtain rfl : x1 = .pointer (some ⟨b, off, none⟩) := f1
              have G := hJ.keep
              clear hJ hd hn
              go_simp
              exact HK.out _ _ (Keep.refl _) rfl
            · -- 3
              refine LinStep.plain rfl ?_
              intro QQ bb T ww hn hJ hd K HK
              obtain ⟨x2, t2, f2⟩ := hJ.dep hd 2 61 (by kernel_rfl) (by kernel_rfl)
              obtain rfl : x2 = .pointer (some ⟨b, off + 1, none⟩) := f2
              have G := hJ.keep
              clear hJ hd hn
              have k0 := G.some q1
              go_simp
              exact HK.out _ _ (Keep.refl _) rfl
            · -- 4
              refine LinStep.plain rfl ?_
              intro QQ bb T ww hn hJ hd K HK
              have s8 := (hJ.oldSlot 8 (by kernel_rfl))
              simp only [List.getElem?_toArray, List.getElem?_cons_zero, List.getElem?_cons_succ] at s8
              have G := hJ.keep
              clear hJ hd hn
              go_simp
              exact HK.out _ _ (Keep.refl _) rfl
            · -- 5
              refine LinStep.plain rfl ?_
              intro QQ bb T ww hn hJ hd K HK
              obtain ⟨x4, t4, f4⟩ := hJ.dep hd 4 63 (by kernel_rfl) (by kernel_rfl)
              obtain rfl : x4 = .pointer (some ⟨BG + 1, 1, none⟩) := f4
              have G := hJ.keep
              clear hJ hd hn
              have k0 := G.some e1q
              go_simp
              exact HK.out _ _ (Keep.refl _) rfl
            · -- 6
              refine LinStep.plain rfl ?_
              intro QQ bb T ww hn hJ hd K HK
              obtain ⟨x5, t5, f5⟩ := hJ.dep hd 5 64 (by kernel_rfl) (by kernel_rfl)
              obtain rfl : x5 = .int .u32 n1 := f5
              have G := hJ.keep
              clear hJ hd hn
              go_wp2
              exact HK.out _ _ (Keep.refl _) rfl
            · -- 7
              refine LinStep.plain rfl ?_
              intro QQ bb T ww hn hJ hd K HK
              obtain ⟨x6, t6, f6⟩ := hJ.dep hd 6 65 (by kernel_rfl) (by kernel_rfl)
              obtain rfl : x6 = .int .u32 (n1 % 3) := f6
              have G := hJ.keep
              clear hJ hd hn
              go_wp2
              exact HK.out _ _ (Keep.refl _) rfl
            · -- 8
              refine LinStep.plain rfl ?_
              intro QQ bb T ww hn hJ hd K HK
              obtain ⟨x3, t3, f3⟩ := hJ.dep hd 3 62 (by kernel_rfl) (by kernel_rfl)
              obtain rfl : x3 = .int .i64 R0 := f3
              obtain ⟨x7, t7, f7⟩ := hJ.dep hd 7 66 (by kernel_rfl) (by kernel_rfl)
              obtain rfl : x7 = .int .i64 (n1 % 3) := f7
              have G := hJ.keep
              clear hJ hd hn
              go_wp2
              exact HK.out _ _ (Keep.refl _) rfl
            · -- 9
              refine LinStep.plain rfl ?_
              intro QQ bb T ww hn hJ hd K HK
              obtain ⟨x8, t8, f8⟩ := hJ.dep hd 8 67 (by kernel_rfl) (by kernel_rfl)
              obtain rfl : x8 = .int .i64 (R0 + n1 % 3) := f8
              have G := hJ.keep
              clear hJ hd hn
              go_simp
              exact HK.out _ _ (Keep.refl _) rfl
            · -- 10
              refine LinStep.plain rfl ?_
              intro QQ bb T ww hn hJ hd K HK
              have s14 := (hJ.oldSlot 14 (by kernel_rfl))
              simp only [List.getElem?_toArray, List.getElem?_cons_zero, List.getElem?_cons_succ] at s14
              have G := hJ.keep
              clear hJ hd hn
              go_simp
              exact HK.out _ _ (Keep.refl _) rfl
      · have c0 := KW.out.some c0
        have c1 := KW.out.some c1
        have e0 := KW.out.some e0
        have e1 := KW.out.some e1
        have h0' := KW.out.some h0'
        have h1' := KW.out.some h1'
        have f0 := KW.out.some f0
        have f1 := KW.out.some f1
        have hf0 := cellBlock f0
        go_upto_region 9 with fail
        clear hf0
        have G8 := Keep.alloc (Keep.refl wr) (.cells #[.int .i64 P1, .int .i64 Q1] 54)
        have K8 := Lib.hid KW.out
        have RL := Lib.hid (RL.out.keep KW.out)
        have KK := Lib.hid (KK.out.trans KW.out)
        have g0 : (wr.alloc (.cells #[.int .i64 P1, .int .i64 Q1] 54)).cell? ⟨wr.heap.size, 0, none⟩ = some (.int .i64 P1) := by simp [go_sem]
        have g1 : (wr.alloc (.cells #[.int .i64 P1, .int .i64 Q1] 54)).cell? ⟨wr.heap.size, 1, none⟩ = some (.int .i64 Q1) := by simp [go_sem]
        have z0 : (wr.alloc (.cells #[.int .i64 P1, .int .i64 Q1] 54)).frozen? ⟨wr.heap.size, 0, none⟩ = false := by simp [go_sem]
        obtain ⟨WX, hWX⟩ : ∃ WX, wr = WX := ⟨_, rfl⟩
        rw [hWX] at c0 c1 e0 e1 h0' h1' f0 f1 RL KK HO HF G8 g0 g1 z0
        try rw [hWX]
        obtain ⟨B14, hB14⟩ : ∃ B, WX.heap.size = B := ⟨_, rfl⟩
        rw [hB14] at g0 g1 z0
        try rw [hB14]
        obtain ⟨W8, hW8⟩ : ∃ W, WX.alloc (.cells #[.int .i64 P1, .int .i64 Q1] 54) = W := ⟨_, rfl⟩
        rw [hW8] at G8 g0 g1 z0
        try rw [hW8]
        clear hW8 hWX KW K8 HR
        rcases Nat.eq_zero_or_pos k with hk0 | hkp
        · exfalso; omega
        · have hk0' : (0 : Int) < (k : Int) := by omega
          obtain ⟨b, off, ea, q0, q1⟩ := HF.out 0 (by omega)
          cases ea
          have q1 := G8.some q1
          obtain ⟨R0, hR0⟩ : ∃ R, szL lk 0 = R := ⟨_, rfl⟩
          rw [hR0] at q1
          have bR0 : 1 ≤ R0 ∧ R0 ≤ 2097152 := by rw [← hR0]; exact HLB.out 0 hkp
          have e1q := G8.some e1
          have hqb := cellBlock q1
          have q1 : W8.cell? ⟨b, off + 1, none⟩ = some (.int .i64 R0) := by simpa using q1
          clear hR0 q0
          go_upto_region 10 with fail
          refine region_tail (h := 11) (W0 := W8) (listF [fun v ww => v = .slice (some ⟨b, off, none⟩) k c12, fun v ww => v = .pointer (some ⟨b, off, none⟩), fun v ww => v = .pointer (some ⟨b, off + 1, none⟩), fun v ww => v = .int .i64 R0, fun v ww => v = .pointer (some ⟨BG + 1, 1, none⟩), fun v ww => v = .int .u32 n1, fun v ww => v = .int .u32 (n1 % 3), fun v ww => v = .int .i64 (n1 % 3), fun v ww => v = .int .i64 (R0 + n1 % 3), fun v ww => v = .int .i64 (min 2097152 (R0 + n1 % 3)), fun v ww => v = .pointer (some ⟨B14, 0, none⟩)]) (listF_stable _ ⟨fun _ _ _ _ h => h, fun _ _ _ _ h => h, fun _ _ _ _ h => h, fun _ _ _ _ h => h, fun _ _ _ _ h => h, fun _ _ _ _ h => h, fun _ _ _ _ h => h, fun _ _ _ _ h => h, fun _ _ _ _ h => h, fun _ _ _ _ h => h, fun _ _ _ _ h => h, trivial⟩) (by kernel_rfl) (by kernel_rfl) (by kernel_rfl) (by kernel_rfl) (by kernel_rfl) (by kernel_rfl) (Keep.refl _) ?done10 ?steps10
          case done10 =>
            intro T10 wz10 hJ
            obtain ⟨x0, t0, f0⟩ := hJ.fact 0 59 (by decide) (by kernel_rfl)
            obtain rfl : x0 = .slice (some ⟨b, off, none⟩) k c12 := f0
            obtain ⟨x1, t1, f1⟩ := hJ.fact 1 60 (by decide) (by kernel_rfl)
            obtain rfl : x1 = .pointer (some ⟨b, off, none⟩) := f1
            obtain ⟨x2, t2, f2⟩ := hJ.fact 2 61 (by decide) (by kernel_rfl)
            obtain rfl : x2 = .pointer (some ⟨b, off + 1, none⟩) := f2
            obtain ⟨x3, t3, f3⟩ := hJ.fact 3 62 (by decide) (by kernel_rfl)
            obtain rfl : x3 = .int .i64 R0 := f3
            obtain ⟨x4, t4, f4⟩ := hJ.fact 4 63 (by decide) (by kernel_rfl)
            obtain rfl : x4 = .pointer (some ⟨BG + 1, 1, none⟩) := f4
            obtain ⟨x5, t5, f5⟩ := hJ.fact 5 64 (by decide) (by kernel_rfl)
            obtain rfl : x5 = .int .u32 n1 := f5
            obtain ⟨x6, t6, f6⟩ := hJ.fact 6 65 (by decide) (by kernel_rfl)
            obtain rfl : x6 = .int .u32 (n1 % 3) := f6
            obtain ⟨x7, t7, f7⟩ := hJ.fact 7 66 (by decide) (by kernel_rfl)
            obtain rfl : x7 = .int .i64 (n1 % 3) := f7
            obtain ⟨x8, t8, f8⟩ := hJ.fact 8 67 (by decide) (by kernel_rfl)
            obtain rfl : x8 = .int .i64 (R0 + n1 % 3) := f8
            obtain ⟨x9, t9, f9⟩ := hJ.fact 9 68 (by decide) (by kernel_rfl)
            obtain rfl : x9 = .int .i64 (min 2097152 (R0 + n1 % 3)) := f9
            obtain ⟨x10, t10, f10⟩ := hJ.fact 10 69 (by decide) (by kernel_rfl)
            obtain rfl : x10 = .pointer (some ⟨B14, 0, none⟩) := f10
            have hfr := hJ.frameTo [(59, .slice (some ⟨b, off, none⟩) k c12), (60, .pointer (some ⟨b, off, none⟩)), (61, .pointer (some ⟨b, off + 1, none⟩)), (62, .int .i64 R0), (63, .pointer (some ⟨BG + 1, 1, none⟩)), (64, .int .u32 n1), (65, .int .u32 (n1 % 3)), (66, .int .i64 (n1 % 3)), (67, .int .i64 (R0 + n1 % 3)), (68, .int .i64 (min 2097152 (R0 + n1 % 3))), (69, .pointer (some ⟨B14, 0, none⟩))] (by simp [t0, t1, t2, t3, t4, t5, t6, t7, t8, t9, t10]) (by kernel_rfl)
            have G := hJ.keep
            clear hJ t0 t1 t2 t3 t4 t5 t6 t7 t8 t9 t10
            rw [hfr]
            clear hfr T10
            simp only [List.foldl_cons, List.foldl_nil, List.setIfInBounds_toArray, List.set_cons_zero, List.set_cons_succ, List.drop_succ_cons, List.drop_zero]
            have z0 := keepThaw G g0 z0
            have g0 := G.some g0
            have g1 := G.some g1
            obtain ⟨F0, hF0⟩ : ∃ X, min 2097152 (R0 + n1 % 3) = X := ⟨_, rfl⟩
            rw [hF0]
            clear hF0
            go_upto_region 11 with fail
            have G9 : Keep WX (wz10.setCell ⟨B14, 0, none⟩ (.int .i64 F0)) := (G8.trans G).setCell (Nat.le_of_eq hB14) _
            have g0 : (wz10.setCell ⟨B14, 0, none⟩ (.int .i64 F0)).cell? ⟨B14, 0, none⟩ = some (.int .i64 F0) := by simp [go_sem, g0]
            have g1 : (wz10.setCell ⟨B14, 0, none⟩ (.int .i64 F0)).cell? ⟨B14, 1, none⟩ = some (.int .i64 Q1) := by simp [go_sem, g1]
            obtain ⟨W9, hW9⟩ : ∃ W, wz10.setCell ⟨B14, 0, none⟩ (.int .i64 F0) = W := ⟨_, rfl⟩
            rw [hW9] at G9 g0 g1
            try rw [hW9]
            clear hW9 G z0 G8 e1q
            have c0 := G9.some c0
            have c1 := G9.some c1
            have e0 := G9.some e0
            have e1 := G9.some e1
            have h0' := G9.some h0'
            have h1' := G9.some h1'
            have f0 := G9.some f0
            have f1 := G9.some f1
            have RL := Lib.hid (RL.out.keep G9)
            have RK := Lib.hid (HO.out.keep G9)
            have KK := Lib.hid (KK.out.trans G9)
            clear HO HF G9
            go_wp2_with (first | (at_builtin; refine wpList_appendL rfl _ _ 39 rfl W9.heap.size 30 i0 (.agg #[.int .i64 0, .int .i64 0]) Try.underlying39 hi0 hz0 hz1 hz2 rfl _ 1 _ rfl (ownsLit1 W9 b0 b1 30) _ lk rfl (RK.out.keep (Keep.alloc (Keep.refl _) _)) (by first | omega | (simp; omega)) W9 (Keep.alloc (Keep.refl _) _) rfl ?_; intro v75 w75 hown75 hk75; have R75 := rowAtOwns (l := (b0, b1) :: lk) hown75; obtain ⟨a75, c75, rfl, -⟩ := R75.form; obtain ⟨n75, hn75⟩ : ∃ x, ((b0, b1) :: lk).length = x := ⟨_, rfl⟩; rw [hn75] at R75 ⊢) | (at_builtin; refine wpList_appendL rfl _ _ 39 rfl w75.heap.size 30 i0 (.agg #[.int .i64 0, .int .i64 0]) Try.underlying39 hi0 hz0 hz1 hz2 rfl _ 0 _ rfl (ownsLitN w75 30) _ lk rfl (RK.out.keep (hk75.trans (Keep.alloc (Keep.refl _) _))) (by first | omega | (simp; omega)) w75 (Keep.alloc (Keep.refl _) _) rfl ?_; intro v78 w78 hown78 hk78) | (at_builtin; refine wpList_appendL rfl _ _ 39 rfl w75.heap.size 30 i0 (.agg #[.int .i64 0, .int .i64 0]) Try.underlying39 hi0 hz0 hz1 hz2 rfl _ _ _ rfl (hown78) _ lm rfl (RL.out.keep (hk75.trans hk78)) (by first | omega | (simp; omega)) w75 (hk78) rfl ?_; intro v80 w80 hown80 hk80; have R80 := rowAtOwns (l := lk ++ lm) (by rw [cellsL_append]; simpa using hown80); obtain ⟨a80, c80, rfl, -⟩ := R80.form; obtain ⟨n80, hn80⟩ : ∃ x, (lk ++ lm).length = x := ⟨_, rfl⟩; rw [hn80] at R80 ⊢))
            have hk := hk75.trans hk80
            have c0 := hk.some c0
            have c1 := hk.some c1
            have f0 := hk.some f0
            have f1 := hk.some f1
            have g0 := hk.some g0
            have g1 := hk.some g1
            have HIX : Hid (∀ i : Nat, i < 4 → ∃ aa nn cc ll, (∀ w', (Instr.index 65 (.agg #[.slice a0 m cap, .slice (some ⟨b, off, none⟩) k c12, .slice a75 n75 c75, .slice a80 n80 c80]) (.int .i64 (i : Int))).run Try.prog w' = .ok (.slice aa nn cc) w') ∧ RowAt w80 (.slice aa nn cc) ll) := Lib.hid fun i hi => by
              obtain rfl | rfl | rfl | rfl : i = 0 ∨ i = 1 ∨ i = 2 ∨ i = 3 := by omega
              · exact ⟨a0, m, cap, _, fun w' => by kernel_rfl, RL.out.keep hk⟩
              · exact ⟨some ⟨b, off, none⟩, k, c12, _, fun w' => by kernel_rfl, RK.out.keep hk⟩
              · exact ⟨a75, n75, c75, _, fun w' => by kernel_rfl, R75.keep hk80⟩
              · exact ⟨a80, n80, c80, _, fun w' => by kernel_rfl, R80⟩
            have HJX : Hid (∀ i : Nat, i < 3 → ∃ k0 k1 : Int, ∀ w', (Instr.index 66 (.agg #[.int .i64 s0, .int .i64 s1, .int .i64 P1, .int .i64 Q1, .int .i64 F0, .int .i64 Q1]) (.int .i64 (i : Int))).run Try.prog w' = .ok (.agg #[.int .i64 k0, .int .i64 k1]) w') := Lib.hid fun i hi => by
              obtain rfl | rfl | rfl : i = 0 ∨ i = 1 ∨ i = 2 := by omega
              · exact ⟨s0, s1, fun w' => by kernel_rfl⟩
              · exact ⟨P1, Q1, fun w' => by kernel_rfl⟩
              · exact ⟨F0, Q1, fun w' => by kernel_rfl⟩
            have KK := Lib.hid (KK.out.trans hk)
            clear hk hk75 hk78 hk80 hown75 hown78 hown80 R75 R80 RL RK e0 e1 h0' h1' hn75 hn80
            go_wp2
            go_loopw [82] (fun s82 wr => ∃ i : Nat, i ≤ 4 ∧ s82 = .int .i64 (i : Int) ∧ Hid (Keep w80 wr)) (fun i _ => 4 - (intOf i).toNat)
            case atStart => exact ⟨0, by omega, rfl, Lib.hid (Keep.refl _)⟩
            case round =>
              obtain ⟨i, hi, rfl, HR⟩ := hrel
              have KK := Lib.hid (KK.out.trans HR.out)
              by_cases hlt : i < 4
              · obtain ⟨aa, nn, cc, ll, hix, hrow⟩ := HIX.out i hlt
                have RW := Lib.hid (hrow.keep HR.out)
                have hlt' : (i : Int) < 4 := by omega
                have c0 := HR.out.some c0
                have c1 := HR.out.some c1
                have f0 := HR.out.some f0
                have f1 := HR.out.some f1
                have g0 := HR.out.some g0
                have g1 := HR.out.some g1
                have hc0 := cellBlock c0
                have hf0 := cellBlock f0
                have hg0 := cellBlock g0
                clear hrow
                obtain ⟨W4, hW4⟩ : ∃ W4, wr = W4 := ⟨_, rfl⟩
                rw [hW4] at c0 c1 f0 f1 g0 g1 HR RW hc0 hf0 hg0
                try rw [hW4]
                clear hW4 KK
                go_wp2
                clear c0 c1 f0 f1 g0 g1 hc0 hf0 hg0 hix
                go_loopw [89] (fun s89 wr2 => ∃ j : Nat, j ≤ 3 ∧ s89 = .int .i64 (j : Int) ∧ Hid (Keep W4 wr2)) (fun j _ => 3 - (intOf j).toNat)
                case atStart => exact ⟨0, by omega, rfl, Lib.hid (Keep.refl _)⟩
                case round =>
                  obtain ⟨j, hj, rfl, KK⟩ := hrel
                  by_cases hjlt : j < 3
                  · obtain ⟨x0, x1, hjx⟩ := HJX.out j hjlt
                    have hjlt' : (j : Int) < 3 := by omega
                    have RW := Lib.hid (RW.out.keep KK.out)
                    obtain ⟨⟨z, E⟩, hv⟩ : ∃ r, delayR ll x0 x1 = r := ⟨_, rfl⟩
                    have H1 := Lib.hid hv
                    have ez : (z != z) = false := by simp
                    have eE : (E != E) = false := by simp
                    clear hv
                    go_wp2_with fail
                    go_at_call 33
                    refine (delay_is aa nn cc ll x0 x1 z E _ (Lib.hid (RW.out.keep (Keep.alloc (Keep.refl _) _))) H1).mono ?_
                    rintro _ w1 ⟨rfl, k1⟩
                    have y0 : w1.cell? ⟨wr.heap.size, 0, none⟩ = some (.int .i64 x0) := k1.some (by first | (simp [go_sem]; done) | exact cell_alloc_old _ (by simp [go_sem]) | exact cell_alloc_old _ (cell_alloc_old _ (by simp [go_sem])))
                    have y1 : w1.cell? ⟨wr.heap.size, 1, none⟩ = some (.int .i64 x1) := k1.some (by first | (simp [go_sem]; done) | exact cell_alloc_old _ (by simp [go_sem]) | exact cell_alloc_old _ (cell_alloc_old _ (by simp [go_sem])))
                    have RW := Lib.hid (by first | exact RW.out.keep k1 | exact RW.out.keep ((Keep.alloc (Keep.refl _) _).trans k1) | exact RW.out.keep (((Keep.alloc (Keep.refl _) _).alloc _).trans k1) | exact RW.out.keep ((((Keep.alloc (Keep.refl _) _).alloc _).alloc _).trans k1))
                    have KK := Lib.hid (by first | exact KK.out.trans k1 | exact (KK.out.alloc _).trans k1 | exact ((KK.out.alloc _).alloc _).trans k1 | exact (((KK.out.alloc _).alloc _).alloc _).trans k1)
                    have hy0 := cellBlock y0
                    go_wp2_with fail
                    go_at_call 34
                    refine (refDelay_is aa nn cc ll x0 x1 z E _ RW H1).mono ?_
                    rintro _ w2 ⟨rfl, k2⟩
                    have y0 := k2.some (by first | exact y0 | exact cell_alloc_old _ y0 | exact cell_alloc_old _ (cell_alloc_old _ y0) | exact cell_alloc_old _ (cell_alloc_old _ (cell_alloc_old _ y0)))
                    have y1 := k2.some (by first | exact y1 | exact cell_alloc_old _ y1 | exact cell_alloc_old _ (cell_alloc_old _ y1) | exact cell_alloc_old _ (cell_alloc_old _ (cell_alloc_old _ y1)))
                    have RW := Lib.hid (by first | exact RW.out.keep k2 | exact RW.out.keep ((Keep.alloc (Keep.refl _) _).trans k2) | exact RW.out.keep (((Keep.alloc (Keep.refl _) _).alloc _).trans k2) | exact RW.out.keep ((((Keep.alloc (Keep.refl _) _).alloc _).alloc _).trans k2))
                    have KK := Lib.hid (by first | exact KK.out.trans k2 | exact (KK.out.alloc _).trans k2 | exact ((KK.out.alloc _).alloc _).trans k2 | exact (((KK.out.alloc _).alloc _).alloc _).trans k2)
                    have hy0 := cellBlock y0
                    clear hjx
                    go_wp2
                    go_roundw
                    case rel => exact ⟨j + 1, by omega, rfl, KK⟩
                    case measure => simp [intOf]; omega
                  · obtain rfl : j = 3 := by omega
                    have HR := Lib.hid (HR.out.trans KK.out)
                    go_wp2
                    go_roundw
                    case rel => exact ⟨i + 1, by omega, rfl, HR⟩
                    case measure => simp [intOf]; omega
              · obtain rfl : i = 4 := by omega
                go_wp2_with (go_at_call 32; ((with_reducible refine (works4_yes _).mono ?_); rintro _ wk ⟨rfl, kw⟩))
                go_ret
                exact ⟨rfl, KK.out.trans kw⟩
          case steps10 =>
            refine LinSteps.cons (k := 0) ?_ (LinSteps.cons (k := 1) ?_ (LinSteps.cons (k := 2) ?_ (LinSteps.cons (k := 3) ?_ (LinSteps.cons (k := 4) ?_ (LinSteps.cons (k := 5) ?_ (LinSteps.cons (k := 6) ?_ (LinSteps.cons (k := 7) ?_ (LinSteps.cons (k := 8) ?_ (LinSteps.cons (k := 9) ?_ (LinSteps.cons (k := 10) ?_ (LinSteps.nil)))))))))))
            · -- 0
              refine LinStep.plain rfl ?_
              intro QQ bb T ww hn hJ hd K HK
              have s12 := (hJ.oldSlot 12 (by kernel_rfl))
              simp only [List.getElem?_toArray, List.getElem?_cons_zero, List.getElem?_cons_succ] at s12
              have G := hJ.keep
              clear hJ hd hn
              go_simp
              exact HK.out _ _ (Keep.refl _) rfl
            · -- 1
              refine LinStep.plain rfl ?_
              intro QQ bb T ww hn hJ hd K HK
              obtain ⟨x0, t0, f0⟩ := hJ.dep hd 0 59 (by kernel_rfl) (by kernel_rfl)
              obtain rfl : x0 = .slice (some ⟨b, off, none⟩) k c12 := f0
              have G := hJ.keep
              clear hJ hd hn
              go_wp2
              exact HK.out _ _ (Keep.refl _) rfl
            · -- 2
              refine LinStep.plain rfl ?_
              intro QQ bb T ww hn hJ hd K HK
              obtain ⟨x1, t1, f1⟩ := hJ.dep hd 1 60 (by kernel_rfl) (by kernel_rfl)
              obtain rfl : x1 = .pointer (some ⟨b, off, none⟩) := f1
              have G := hJ.keep
              clear hJ hd hn
              go_simp
              exact HK.out _ _ (Keep.refl _) rfl
            · -- 3
              refine LinStep.plain rfl ?_
              intro QQ bb T ww hn hJ hd K HK
              obtain ⟨x2, t2, f2⟩ := hJ.dep hd 2 61 (by kernel_rfl) (by kernel_rfl)
              obtain rfl : x2 = .pointer (some ⟨b, off + 1, none⟩) := f2
              have G := hJ.keep
              clear hJ hd hn
              have k0 := G.some q1
              go_simp
              exact HK.out _ _ (Keep.refl _) rfl
            · -- 4
              refine LinStep.plain rfl ?_
              intro QQ bb T ww hn hJ hd K HK
              have s8 := (hJ.oldSlot 8 (by kernel_rfl))
              simp only [List.getElem?_toArray, List.getElem?_cons_zero, List.getElem?_cons_succ] at s8
              have G := hJ.keep
              clear hJ hd hn
              go_simp
              exact HK.out _ _ (Keep.refl _) rfl
            · -- 5
              refine LinStep.plain rfl ?_
              intro QQ bb T ww hn hJ hd K HK
              obtain ⟨x4, t4, f4⟩ := hJ.dep hd 4 63 (by kernel_rfl) (by kernel_rfl)
              obtain rfl : x4 = .pointer (some ⟨BG + 1, 1, none⟩) := f4
              have G := hJ.keep
              clear hJ hd hn
              have k0 := G.some e1q
              go_simp
              exact HK.out _ _ (Keep.refl _) rfl
            · -- 6
              refine LinStep.plain rfl ?_
              intro QQ bb T ww hn hJ hd K HK
              obtain ⟨x5, t5, f5⟩ := hJ.dep hd 5 64 (by kernel_rfl) (by kernel_rfl)
              obtain rfl : x5 = .int .u32 n1 := f5
              have G := hJ.keep
              clear hJ hd hn
              go_wp2
              exact HK.out _ _ (Keep.refl _) rfl
            · -- 7
              refine LinStep.plain rfl ?_
              intro QQ bb T ww hn hJ hd K HK
              obtain ⟨x6, t6, f6⟩ := hJ.dep hd 6 65 (by kernel_rfl) (by kernel_rfl)
              obtain rfl : x6 = .int .u32 (n1 % 3) := f6
              have G := hJ.keep
              clear hJ hd hn
              go_wp2
              exact HK.out _ _ (Keep.refl _) rfl
            · -- 8
              refine LinStep.plain rfl ?_
              intro QQ bb T ww hn hJ hd K HK
              obtain ⟨x3, t3, f3⟩ := hJ.dep hd 3 62 (by kernel_rfl) (by kernel_rfl)
              obtain rfl : x3 = .int .i64 R0 := f3
              obtain ⟨x7, t7, f7⟩ := hJ.dep hd 7 66 (by kernel_rfl) (by kernel_rfl)
              obtain rfl : x7 = .int .i64 (n1 % 3) := f7
              have G := hJ.keep
              clear hJ hd hn
              go_wp2
              exact HK.out _ _ (Keep.refl _) rfl
            · -- 9
              refine LinStep.plain rfl ?_
              intro QQ bb T ww hn hJ hd K HK
              obtain ⟨x8, t8, f8⟩ := hJ.dep hd 8 67 (by kernel_rfl) (by kernel_rfl)
              obtain rfl : x8 = .int .i64 (R0 + n1 % 3) := f8
              have G := hJ.keep
              clear hJ hd hn
              go_simp
              exact HK.out _ _ (Keep.refl _) rfl
            · -- 10
              refine LinStep.plain rfl ?_
              intro QQ bb T ww hn hJ hd K HK
              have s14 := (hJ.oldSlot 14 (by kernel_rfl))
              simp only [List.getElem?_toArray, List.getElem?_cons_zero, List.getElem?_cons_succ] at s14
              have G := hJ.keep
              clear hJ hd hn
              go_simp
              exact HK.out _ _ (Keep.refl _) rfl

theorem lawDelays_any (v : Value) (l0 : List (Int × Int)) (da : Option Addr) (dn dc : Nat) (Bf Rf : Nat → Int) (s0 s1 n0 n1 b0 b1 : Int) (w : World) (hv : RowAt w v l0) (hD : DraftsAt w da dn Bf Rf) (hn0 : 0 ≤ n0 ∧ n0 ≤ 4294967295) (hn1 : 0 ≤ n1 ∧ n1 ≤ 4294967295) :
    Calls Try.prog 6 #[v, .slice da dn dc, .agg #[.int .i64 s0, .int .i64 s1], .agg #[.int .u32 n0, .int .u32 n1], .agg #[.int .i64 b0, .int .i64 b1]] w (Res (.bool true) w) := by
  obtain ⟨a0, n, cap, rfl⟩ := hv.slice
  exact delays_walk a0 n cap (min n 13) l0 da dn dc Bf Rf s0 s1 n0 n1 b0 b1 w (Lib.hid hv) (by omega) (by omega) (Lib.hid hD) hn0 hn1

end Go.Proofs.Ytmamadgikjkjdaa
