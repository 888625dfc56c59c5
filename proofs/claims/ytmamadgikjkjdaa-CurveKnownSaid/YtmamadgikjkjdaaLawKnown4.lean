/- CurveKnown's walk: the examples, invalid services, results at the limits, the order of errors. -/
import Derived.Test.YtmamadgikjkjdaaLawTight
namespace Go.Proofs.Ytmamadgikjkjdaa
open Go Go.RowKit

theorem badS {c0 c1 : Int} (h : okSv c0 c1 = false) : serveE c0 c1 = 140 := by unfold serveE; rw [h]; rfl
theorem badS_delay {c0 c1 : Int} (h : okSv c0 c1 = false) : delayR [(1, 1)] c0 c1 = (0, 140) := by
  have e : flowE [(1, 1)] c0 c1 = 140 := by
    unfold flowE
    rw [show bucketsE [(1, 1)] = 0 by decide, badS h]
    rfl
  unfold delayR
  rw [e]; rfl
theorem badB_delay (c0 c1 : Int) : delayR [(1, 1), (0, 0)] c0 c1 = (0, 130) := by
  have e : flowE [(1, 1), (0, 0)] c0 c1 = 130 := by
    unfold flowE
    rw [show bucketsE [(1, 1), (0, 0)] = 130 by decide]
    rfl
  unfold delayR
  rw [e]; rfl
theorem badS_backlog {c0 c1 : Int} (h : okSv c0 c1 = false) : backlogR 1 1 c0 c1 = (0, 140) := by
  have e : flowE [(1, 1)] c0 c1 = 140 := by
    unfold flowE
    rw [show bucketsE [(1, 1)] = 0 by decide, badS h]
    rfl
  unfold backlogR
  rw [e]; rfl
theorem badS_output {c0 c1 : Int} (h : okSv c0 c1 = false) : outputR 1 1 c0 c1 = ((0, 0), 140) := by
  unfold outputR
  rw [badS_delay h]; rfl
theorem badS_join {c0 c1 : Int} (h : okSv c0 c1 = false) : joinR 1 0 c0 c1 = ((0, 0), 140) := by
  unfold joinR
  rw [h]; simp
theorem badS_drain {c0 c1 : Int} (h : okSv c0 c1 = false) : drainR [] c0 c1 = ([], 140) := by
  unfold drainR
  rw [show okT [] = true by decide, h]; rfl
theorem badT_drain (c0 c1 : Int) : drainR [(-1, 1)] c0 c1 = ([], 131) := by
  unfold drainR
  rw [show okT [(-1, 1)] = false by decide]; rfl
theorem rowMk (w : World) (n : Nat) (t : TypeId) (h : n ≤ 1000) : RowAt (w.alloc (.cells (cellsL (List.replicate n (0, 0))).toArray t)) (.slice (some ⟨w.heap.size, 0, none⟩) n n) (List.replicate n (0, 0)) := by
  have := rowNew w (List.replicate n (0, 0)) t (by simpa using h)
  simpa using this
theorem listNil {w : World} {v : Value} (h : ListAt w v []) : ∃ a cap, v = .slice a 0 cap := by
  obtain ⟨a, n, cap, rfl, h2, _⟩ := h.form
  obtain rfl : 0 = n := by simpa using h2
  exact ⟨a, cap, rfl⟩

set_option maxRecDepth 100000 in
set_option maxHeartbeats 16000000 in
theorem known4 (w : World) : Calls Try.prog 14 #[] w (Res (.bool true) w) := by
  have hmk : ∀ w' : World, (Instr.makeSlice 39 (.int .i64 13) (.int .i64 13)).run Try.prog w' = .ok (.slice (some ⟨w'.heap.size, 0, none⟩) 13 13) (w'.alloc (.cells (cellsL (List.replicate 13 (0, 0))).toArray 30)) := fun _ => by kernel_rfl
  have HMK := Lib.hid hmk
  clear hmk
  have KK := Lib.hid ((Keep.alloc (Keep.refl w) (.cells #[.int .i64 1, .int .i64 0] 54)).alloc (.cells #[.int .i64 1, .int .i64 1] 30))
  have g0 : ((w.alloc (.cells #[.int .i64 1, .int .i64 0] 54)).alloc (.cells #[.int .i64 1, .int .i64 1] 30)).cell? ⟨w.heap.size, 0, none⟩ = some (.int .i64 1) := by simp [go_sem]
  have g1 : ((w.alloc (.cells #[.int .i64 1, .int .i64 0] 54)).alloc (.cells #[.int .i64 1, .int .i64 1] 30)).cell? ⟨w.heap.size, 1, none⟩ = some (.int .i64 0) := by simp [go_sem]
  have b0 : ((w.alloc (.cells #[.int .i64 1, .int .i64 0] 54)).alloc (.cells #[.int .i64 1, .int .i64 1] 30)).cell? ⟨w.heap.size + 1, 0, none⟩ = some (.int .i64 1) := by simp [go_sem]
  have b1 : ((w.alloc (.cells #[.int .i64 1, .int .i64 0] 54)).alloc (.cells #[.int .i64 1, .int .i64 1] 30)).cell? ⟨w.heap.size + 1, 1, none⟩ = some (.int .i64 1) := by simp [go_sem]
  have HIB : Hid (∀ i : Nat, i < 5 → ∃ c0 c1 : Int, (∀ w', (Instr.index 87 (.agg #[.int .i64 0, .int .i64 0, .int .i64 1, .int .i64 (-1), .int .i64 2097153, .int .i64 0, .int .i64 1, .int .i64 268435457, .int .i64 (-1), .int .i64 5]) (.int .i64 (i : Int))).run Try.prog w' = .ok (.agg #[.int .i64 c0, .int .i64 c1]) w') ∧ okSv c0 c1 = false) := Lib.hid fun i hi => by
    obtain rfl | rfl | rfl | rfl | rfl : i = 0 ∨ i = 1 ∨ i = 2 ∨ i = 3 ∨ i = 4 := by omega
    · exact ⟨0, 0, fun w' => by kernel_rfl, rfl⟩
    · exact ⟨1, -1, fun w' => by kernel_rfl, rfl⟩
    · exact ⟨2097153, 0, fun w' => by kernel_rfl, rfl⟩
    · exact ⟨1, 268435457, fun w' => by kernel_rfl, rfl⟩
    · exact ⟨-1, 5, fun w' => by kernel_rfl, rfl⟩
  go_enter Try.func14, Try.ntmps14
  go_wp2
  obtain ⟨BG, hBG⟩ : ∃ BG, w.heap.size = BG := ⟨_, rfl⟩
  obtain ⟨W0, hW0⟩ : ∃ W0, (w.alloc (.cells #[.int .i64 1, .int .i64 0] 54)).alloc (.cells #[.int .i64 1, .int .i64 1] 30) = W0 := ⟨_, rfl⟩
  rw [hBG] at g0 g1 b0 b1 ⊢
  rw [hW0] at g0 g1 b0 b1 KK ⊢
  clear hW0 hBG
  go_loopw [45] (fun s45 wr => ∃ i : Nat, i ≤ 5 ∧ s45 = .int .i64 (i : Int) ∧ Hid (Keep W0 wr)) (fun i _ => 5 - (intOf i).toNat)
  case atStart => exact ⟨0, by omega, rfl, Lib.hid (Keep.refl _)⟩
  case round =>
    obtain ⟨i, hi, rfl, HR⟩ := hrel
    have g0 := HR.out.some g0
    have g1 := HR.out.some g1
    have b0 := HR.out.some b0
    have b1 := HR.out.some b1
    have hg0 := cellBlock g0
    have hb0 := cellBlock b0
    by_cases hlt : i < 5
    · obtain ⟨c0, c1, hix, hbad⟩ := HIB.out i hlt
      have hlt' : (i : Int) < 5 := by omega
      have KK := HR
      have H1 := Lib.hid (badS_delay hbad)
      have H2 := Lib.hid (badB_delay c0 c1)
      have H3 := Lib.hid (badS_backlog hbad)
      have H4 := Lib.hid (badS_output hbad)
      have H5 := Lib.hid (badS_join hbad)
      have H6 := Lib.hid (badS_drain hbad)
      have H7 := Lib.hid (badT_drain c0 c1)
      have H8 := Lib.hid (badS hbad)
      clear hbad
      go_wp2_with fail
      go_at_call 33
      refine (delay_is _ 1 1 [(1, 1)] c0 c1 0 140 _ (Lib.hid (rowAll _ [(1, 1)] _ _ _ 1 (by simp) rfl rfl (by simp))) H1).mono ?_
      rintro _ w1 ⟨rfl, k1⟩
      have s0 : w1.cell? ⟨wr.heap.size, 0, none⟩ = some (.int .i64 c0) := k1.some (by first | (simp [go_sem]; done) | exact cell_alloc_old _ (by simp [go_sem]) | exact cell_alloc_old _ (cell_alloc_old _ (by simp [go_sem])))
      have s1 : w1.cell? ⟨wr.heap.size, 1, none⟩ = some (.int .i64 c1) := k1.some (by first | (simp [go_sem]; done) | exact cell_alloc_old _ (by simp [go_sem]) | exact cell_alloc_old _ (cell_alloc_old _ (by simp [go_sem])))
      have g0 := k1.some (by first | exact g0 | exact cell_alloc_old _ g0 | exact cell_alloc_old _ (cell_alloc_old _ g0) | exact cell_alloc_old _ (cell_alloc_old _ (cell_alloc_old _ g0)))
      have g1 := k1.some (by first | exact g1 | exact cell_alloc_old _ g1 | exact cell_alloc_old _ (cell_alloc_old _ g1) | exact cell_alloc_old _ (cell_alloc_old _ (cell_alloc_old _ g1)))
      have b0 := k1.some (by first | exact b0 | exact cell_alloc_old _ b0 | exact cell_alloc_old _ (cell_alloc_old _ b0) | exact cell_alloc_old _ (cell_alloc_old _ (cell_alloc_old _ b0)))
      have b1 := k1.some (by first | exact b1 | exact cell_alloc_old _ b1 | exact cell_alloc_old _ (cell_alloc_old _ b1) | exact cell_alloc_old _ (cell_alloc_old _ (cell_alloc_old _ b1)))
      have KK := Lib.hid (by first | exact KK.out.trans k1 | exact (KK.out.alloc _).trans k1 | exact ((KK.out.alloc _).alloc _).trans k1 | exact (((KK.out.alloc _).alloc _).alloc _).trans k1)
      have hg0 := cellBlock g0
      have hb0 := cellBlock b0
      have hs0 := cellBlock s0
      go_wp2_with fail
      go_at_call 33
      refine (delay_is _ 2 2 [(1, 1), (0, 0)] c0 c1 0 130 _ (Lib.hid (rowAll _ [(1, 1), (0, 0)] _ _ _ 2 (by simp) rfl rfl (by simp))) H2).mono ?_
      rintro _ w2 ⟨rfl, k2⟩
      have g0 := k2.some (by first | exact g0 | exact cell_alloc_old _ g0 | exact cell_alloc_old _ (cell_alloc_old _ g0) | exact cell_alloc_old _ (cell_alloc_old _ (cell_alloc_old _ g0)))
      have g1 := k2.some (by first | exact g1 | exact cell_alloc_old _ g1 | exact cell_alloc_old _ (cell_alloc_old _ g1) | exact cell_alloc_old _ (cell_alloc_old _ (cell_alloc_old _ g1)))
      have b0 := k2.some (by first | exact b0 | exact cell_alloc_old _ b0 | exact cell_alloc_old _ (cell_alloc_old _ b0) | exact cell_alloc_old _ (cell_alloc_old _ (cell_alloc_old _ b0)))
      have b1 := k2.some (by first | exact b1 | exact cell_alloc_old _ b1 | exact cell_alloc_old _ (cell_alloc_old _ b1) | exact cell_alloc_old _ (cell_alloc_old _ (cell_alloc_old _ b1)))
      have s0 := k2.some (by first | exact s0 | exact cell_alloc_old _ s0 | exact cell_alloc_old _ (cell_alloc_old _ s0) | exact cell_alloc_old _ (cell_alloc_old _ (cell_alloc_old _ s0)))
      have s1 := k2.some (by first | exact s1 | exact cell_alloc_old _ s1 | exact cell_alloc_old _ (cell_alloc_old _ s1) | exact cell_alloc_old _ (cell_alloc_old _ (cell_alloc_old _ s1)))
      have KK := Lib.hid (by first | exact KK.out.trans k2 | exact (KK.out.alloc _).trans k2 | exact ((KK.out.alloc _).alloc _).trans k2 | exact (((KK.out.alloc _).alloc _).alloc _).trans k2)
      have hg0 := cellBlock g0
      have hb0 := cellBlock b0
      have hs0 := cellBlock s0
      go_wp2_with fail
      go_at_call 35
      refine (backlog_is 1 1 c0 c1 0 140 _ H3).mono ?_
      rintro _ w3 ⟨rfl, k3⟩
      have g0 := k3.some (by first | exact g0 | exact cell_alloc_old _ g0 | exact cell_alloc_old _ (cell_alloc_old _ g0) | exact cell_alloc_old _ (cell_alloc_old _ (cell_alloc_old _ g0)))
      have g1 := k3.some (by first | exact g1 | exact cell_alloc_old _ g1 | exact cell_alloc_old _ (cell_alloc_old _ g1) | exact cell_alloc_old _ (cell_alloc_old _ (cell_alloc_old _ g1)))
      have b0 := k3.some (by first | exact b0 | exact cell_alloc_old _ b0 | exact cell_alloc_old _ (cell_alloc_old _ b0) | exact cell_alloc_old _ (cell_alloc_old _ (cell_alloc_old _ b0)))
      have b1 := k3.some (by first | exact b1 | exact cell_alloc_old _ b1 | exact cell_alloc_old _ (cell_alloc_old _ b1) | exact cell_alloc_old _ (cell_alloc_old _ (cell_alloc_old _ b1)))
      have s0 := k3.some (by first | exact s0 | exact cell_alloc_old _ s0 | exact cell_alloc_old _ (cell_alloc_old _ s0) | exact cell_alloc_old _ (cell_alloc_old _ (cell_alloc_old _ s0)))
      have s1 := k3.some (by first | exact s1 | exact cell_alloc_old _ s1 | exact cell_alloc_old _ (cell_alloc_old _ s1) | exact cell_alloc_old _ (cell_alloc_old _ (cell_alloc_old _ s1)))
      have KK := Lib.hid (by first | exact KK.out.trans k3 | exact (KK.out.alloc _).trans k3 | exact ((KK.out.alloc _).alloc _).trans k3 | exact (((KK.out.alloc _).alloc _).alloc _).trans k3)
      have hg0 := cellBlock g0
      have hb0 := cellBlock b0
      have hs0 := cellBlock s0
      go_wp2_with fail
      go_at_call 37
      refine (output_is 1 1 c0 c1 0 0 140 _ H4).mono ?_
      rintro _ w4 ⟨rfl, k4⟩
      have g0 := k4.some (by first | exact g0 | exact cell_alloc_old _ g0 | exact cell_alloc_old _ (cell_alloc_old _ g0) | exact cell_alloc_old _ (cell_alloc_old _ (cell_alloc_old _ g0)))
      have g1 := k4.some (by first | exact g1 | exact cell_alloc_old _ g1 | exact cell_alloc_old _ (cell_alloc_old _ g1) | exact cell_alloc_old _ (cell_alloc_old _ (cell_alloc_old _ g1)))
      have b0 := k4.some (by first | exact b0 | exact cell_alloc_old _ b0 | exact cell_alloc_old _ (cell_alloc_old _ b0) | exact cell_alloc_old _ (cell_alloc_old _ (cell_alloc_old _ b0)))
      have b1 := k4.some (by first | exact b1 | exact cell_alloc_old _ b1 | exact cell_alloc_old _ (cell_alloc_old _ b1) | exact cell_alloc_old _ (cell_alloc_old _ (cell_alloc_old _ b1)))
      have s0 := k4.some (by first | exact s0 | exact cell_alloc_old _ s0 | exact cell_alloc_old _ (cell_alloc_old _ s0) | exact cell_alloc_old _ (cell_alloc_old _ (cell_alloc_old _ s0)))
      have s1 := k4.some (by first | exact s1 | exact cell_alloc_old _ s1 | exact cell_alloc_old _ (cell_alloc_old _ s1) | exact cell_alloc_old _ (cell_alloc_old _ (cell_alloc_old _ s1)))
      have KK := Lib.hid (by first | exact KK.out.trans k4 | exact (KK.out.alloc _).trans k4 | exact ((KK.out.alloc _).alloc _).trans k4 | exact (((KK.out.alloc _).alloc _).alloc _).trans k4)
      have hg0 := cellBlock g0
      have hb0 := cellBlock b0
      have hs0 := cellBlock s0
      go_wp2_with fail
      go_at_call 28
      refine (join_is 1 0 c0 c1 0 0 140 _ H5).mono ?_
      rintro _ w5 ⟨rfl, k5⟩
      have g0 := k5.some (by first | exact g0 | exact cell_alloc_old _ g0 | exact cell_alloc_old _ (cell_alloc_old _ g0) | exact cell_alloc_old _ (cell_alloc_old _ (cell_alloc_old _ g0)))
      have g1 := k5.some (by first | exact g1 | exact cell_alloc_old _ g1 | exact cell_alloc_old _ (cell_alloc_old _ g1) | exact cell_alloc_old _ (cell_alloc_old _ (cell_alloc_old _ g1)))
      have b0 := k5.some (by first | exact b0 | exact cell_alloc_old _ b0 | exact cell_alloc_old _ (cell_alloc_old _ b0) | exact cell_alloc_old _ (cell_alloc_old _ (cell_alloc_old _ b0)))
      have b1 := k5.some (by first | exact b1 | exact cell_alloc_old _ b1 | exact cell_alloc_old _ (cell_alloc_old _ b1) | exact cell_alloc_old _ (cell_alloc_old _ (cell_alloc_old _ b1)))
      have s0 := k5.some (by first | exact s0 | exact cell_alloc_old _ s0 | exact cell_alloc_old _ (cell_alloc_old _ s0) | exact cell_alloc_old _ (cell_alloc_old _ (cell_alloc_old _ s0)))
      have s1 := k5.some (by first | exact s1 | exact cell_alloc_old _ s1 | exact cell_alloc_old _ (cell_alloc_old _ s1) | exact cell_alloc_old _ (cell_alloc_old _ (cell_alloc_old _ s1)))
      have KK := Lib.hid (by first | exact KK.out.trans k5 | exact (KK.out.alloc _).trans k5 | exact ((KK.out.alloc _).alloc _).trans k5 | exact (((KK.out.alloc _).alloc _).alloc _).trans k5)
      have hg0 := cellBlock g0
      have hb0 := cellBlock b0
      have hs0 := cellBlock s0
      go_wp2_with fail
      go_at_call 40
      refine (drain_slice none 0 0 [] c0 c1 _ _ (Lib.hid (Or.inl ⟨rfl, rfl⟩)) H6).mono ?_
      rintro _ w6 ⟨v6, rfl, -, k6⟩
      have g0 := k6.some (by first | exact g0 | exact cell_alloc_old _ g0 | exact cell_alloc_old _ (cell_alloc_old _ g0) | exact cell_alloc_old _ (cell_alloc_old _ (cell_alloc_old _ g0)))
      have g1 := k6.some (by first | exact g1 | exact cell_alloc_old _ g1 | exact cell_alloc_old _ (cell_alloc_old _ g1) | exact cell_alloc_old _ (cell_alloc_old _ (cell_alloc_old _ g1)))
      have b0 := k6.some (by first | exact b0 | exact cell_alloc_old _ b0 | exact cell_alloc_old _ (cell_alloc_old _ b0) | exact cell_alloc_old _ (cell_alloc_old _ (cell_alloc_old _ b0)))
      have b1 := k6.some (by first | exact b1 | exact cell_alloc_old _ b1 | exact cell_alloc_old _ (cell_alloc_old _ b1) | exact cell_alloc_old _ (cell_alloc_old _ (cell_alloc_old _ b1)))
      have s0 := k6.some (by first | exact s0 | exact cell_alloc_old _ s0 | exact cell_alloc_old _ (cell_alloc_old _ s0) | exact cell_alloc_old _ (cell_alloc_old _ (cell_alloc_old _ s0)))
      have s1 := k6.some (by first | exact s1 | exact cell_alloc_old _ s1 | exact cell_alloc_old _ (cell_alloc_old _ s1) | exact cell_alloc_old _ (cell_alloc_old _ (cell_alloc_old _ s1)))
      have KK := Lib.hid (by first | exact KK.out.trans k6 | exact (KK.out.alloc _).trans k6 | exact ((KK.out.alloc _).alloc _).trans k6 | exact (((KK.out.alloc _).alloc _).alloc _).trans k6)
      have hg0 := cellBlock g0
      have hb0 := cellBlock b0
      have hs0 := cellBlock s0
      go_wp2_with fail
      go_at_call 40
      refine (drain_slice _ 1 1 [(-1, 1)] c0 c1 _ _ (Lib.hid (rowAll _ [(-1, 1)] _ _ _ 1 (by simp) rfl rfl (by simp))) H7).mono ?_
      rintro _ w7 ⟨v7, rfl, -, k7⟩
      have g0 := k7.some (by first | exact g0 | exact cell_alloc_old _ g0 | exact cell_alloc_old _ (cell_alloc_old _ g0) | exact cell_alloc_old _ (cell_alloc_old _ (cell_alloc_old _ g0)))
      have g1 := k7.some (by first | exact g1 | exact cell_alloc_old _ g1 | exact cell_alloc_old _ (cell_alloc_old _ g1) | exact cell_alloc_old _ (cell_alloc_old _ (cell_alloc_old _ g1)))
      have b0 := k7.some (by first | exact b0 | exact cell_alloc_old _ b0 | exact cell_alloc_old _ (cell_alloc_old _ b0) | exact cell_alloc_old _ (cell_alloc_old _ (cell_alloc_old _ b0)))
      have b1 := k7.some (by first | exact b1 | exact cell_alloc_old _ b1 | exact cell_alloc_old _ (cell_alloc_old _ b1) | exact cell_alloc_old _ (cell_alloc_old _ (cell_alloc_old _ b1)))
      have s0 := k7.some (by first | exact s0 | exact cell_alloc_old _ s0 | exact cell_alloc_old _ (cell_alloc_old _ s0) | exact cell_alloc_old _ (cell_alloc_old _ (cell_alloc_old _ s0)))
      have s1 := k7.some (by first | exact s1 | exact cell_alloc_old _ s1 | exact cell_alloc_old _ (cell_alloc_old _ s1) | exact cell_alloc_old _ (cell_alloc_old _ (cell_alloc_old _ s1)))
      have KK := Lib.hid (by first | exact KK.out.trans k7 | exact (KK.out.alloc _).trans k7 | exact ((KK.out.alloc _).alloc _).trans k7 | exact (((KK.out.alloc _).alloc _).alloc _).trans k7)
      have hg0 := cellBlock g0
      have hb0 := cellBlock b0
      have hs0 := cellBlock s0
      go_wp2_with fail
      go_at_call 30
      refine (serve_is c0 c1 140 _ H8).mono ?_
      rintro _ w8 ⟨rfl, k8⟩
      have g0 := k8.some (by first | exact g0 | exact cell_alloc_old _ g0 | exact cell_alloc_old _ (cell_alloc_old _ g0) | exact cell_alloc_old _ (cell_alloc_old _ (cell_alloc_old _ g0)))
      have g1 := k8.some (by first | exact g1 | exact cell_alloc_old _ g1 | exact cell_alloc_old _ (cell_alloc_old _ g1) | exact cell_alloc_old _ (cell_alloc_old _ (cell_alloc_old _ g1)))
      have b0 := k8.some (by first | exact b0 | exact cell_alloc_old _ b0 | exact cell_alloc_old _ (cell_alloc_old _ b0) | exact cell_alloc_old _ (cell_alloc_old _ (cell_alloc_old _ b0)))
      have b1 := k8.some (by first | exact b1 | exact cell_alloc_old _ b1 | exact cell_alloc_old _ (cell_alloc_old _ b1) | exact cell_alloc_old _ (cell_alloc_old _ (cell_alloc_old _ b1)))
      have s0 := k8.some (by first | exact s0 | exact cell_alloc_old _ s0 | exact cell_alloc_old _ (cell_alloc_old _ s0) | exact cell_alloc_old _ (cell_alloc_old _ (cell_alloc_old _ s0)))
      have s1 := k8.some (by first | exact s1 | exact cell_alloc_old _ s1 | exact cell_alloc_old _ (cell_alloc_old _ s1) | exact cell_alloc_old _ (cell_alloc_old _ (cell_alloc_old _ s1)))
      have KK := Lib.hid (by first | exact KK.out.trans k8 | exact (KK.out.alloc _).trans k8 | exact ((KK.out.alloc _).alloc _).trans k8 | exact (((KK.out.alloc _).alloc _).alloc _).trans k8)
      have hg0 := cellBlock g0
      have hb0 := cellBlock b0
      have hs0 := cellBlock s0
      clear hix
      go_wp2
      go_roundw
      case rel => first | exact ⟨i + 1, by omega, rfl, KK⟩ | ((repeat apply Exists.intro); exact ⟨⟨i + 1, by omega, rfl, KK⟩, rfl⟩)
      case measure => simp [intOf]; omega
    · obtain rfl : i = 5 := by omega
      have KK := Lib.hid (KK.out.trans HR.out)
      clear HIB
      have N1 : Hid (delayR [] 1 0 = (0, 2)) := Lib.hid (by decide)
      have N2 : Hid (delayR (List.replicate 13 (0, 0)) 1 0 = (0, 3)) := Lib.hid (by decide)
      have N3 : Hid (backlogR 1 2 1 0 = (0, 141)) := Lib.hid (by decide)
      have N4 : Hid (outputR 1048576 1 1 0 = ((0, 0), 6)) := Lib.hid (by decide)
      have N5 : Hid (joinR 1 268435456 1 1 = ((0, 0), 6)) := Lib.hid (by decide)
      have N6 : Hid (joinR 9 268435455 7 1 = ((7, 268435456), 0)) := Lib.hid (by decide)
      have N7 : Hid (drainR [] 1 0 = ([], 0)) := Lib.hid (by decide)
      have N8 : Hid (delayR [(1, 1)] 1 0 = (1048576, 0)) := Lib.hid (by decide)
      have N9 : Hid (delayR [(1048576, 1)] 1 0 = (1099511627776, 0)) := Lib.hid (by decide)
      have N10 : Hid (delayR [(10, 1048576), (10, 2097152)] 1048576 3 = (13, 0)) := Lib.hid (by decide)
      have N11 : Hid (delayR [(10, 1), (10, 2097152), (10, 2097152)] 1048576 3 = (13, 0)) := Lib.hid (by decide)
      have N12 : Hid (delayR [(20, 1048576), (10, 2097152)] 1048576 3 = (23, 0)) := Lib.hid (by decide)
      go_wp2_with fail
      go_at_call 33
      refine (delay_is none 0 0 [] 1 0 0 2 _ (Lib.hid (Or.inl ⟨rfl, rfl⟩)) N1).mono ?_
      rintro _ w1 ⟨rfl, k1⟩
      have g0 := k1.some (by first | exact g0 | exact cell_alloc_old _ g0 | exact cell_alloc_old _ (cell_alloc_old _ g0) | exact cell_alloc_old _ (cell_alloc_old _ (cell_alloc_old _ g0)))
      have g1 := k1.some (by first | exact g1 | exact cell_alloc_old _ g1 | exact cell_alloc_old _ (cell_alloc_old _ g1) | exact cell_alloc_old _ (cell_alloc_old _ (cell_alloc_old _ g1)))
      have b0 := k1.some (by first | exact b0 | exact cell_alloc_old _ b0 | exact cell_alloc_old _ (cell_alloc_old _ b0) | exact cell_alloc_old _ (cell_alloc_old _ (cell_alloc_old _ b0)))
      have b1 := k1.some (by first | exact b1 | exact cell_alloc_old _ b1 | exact cell_alloc_old _ (cell_alloc_old _ b1) | exact cell_alloc_old _ (cell_alloc_old _ (cell_alloc_old _ b1)))
      have KK := Lib.hid (by first | exact KK.out.trans k1 | exact (KK.out.alloc _).trans k1 | exact ((KK.out.alloc _).alloc _).trans k1 | exact (((KK.out.alloc _).alloc _).alloc _).trans k1)
      have hg0 := cellBlock g0
      have hb0 := cellBlock b0
      go_upto_region 16 with fail
      refine region_lin (W0 := w1) (listF [fun v ww => RowAt ww v (List.replicate 13 (0, 0)), fun v ww => v = .agg #[.int .i64 1, .int .i64 0], fun v ww => v = .tuple #[.int .i64 0, .int .i64 3], fun v ww => v = .tuple #[.int .i64 0, .int .i64 3], fun v ww => v = .int .i64 0, fun v ww => v = .int .i64 3, fun v ww => v = .int .i64 0, fun v ww => v = .int .i64 3]) (listF_stable _ ⟨fun _ _ _ hk h => h.keep hk, fun _ _ _ _ h => h, fun _ _ _ _ h => h, fun _ _ _ _ h => h, fun _ _ _ _ h => h, fun _ _ _ _ h => h, fun _ _ _ _ h => h, fun _ _ _ _ h => h, trivial⟩) (by kernel_rfl) (by kernel_rfl) (by kernel_rfl) (by kernel_rfl) (Keep.refl _) ?donek ?stepsk
      case donek =>
        intro Tk wzk hJ
        obtain ⟨x0, t0, f0⟩ := hJ.fact 0 131 (by decide) (by kernel_rfl)
        replace f0 : RowAt wzk x0 (List.replicate 13 (0, 0)) := f0
        obtain ⟨x1, t1, f1⟩ := hJ.fact 1 132 (by decide) (by kernel_rfl)
        obtain rfl : x1 = .agg #[.int .i64 1, .int .i64 0] := f1
        obtain ⟨x2, t2, f2⟩ := hJ.fact 2 133 (by decide) (by kernel_rfl)
        obtain rfl : x2 = .tuple #[.int .i64 0, .int .i64 3] := f2
        obtain ⟨x3, t3, f3⟩ := hJ.fact 3 130 (by decide) (by kernel_rfl)
        obtain rfl : x3 = .tuple #[.int .i64 0, .int .i64 3] := f3
        obtain ⟨x4, t4, f4⟩ := hJ.fact 4 134 (by decide) (by kernel_rfl)
        obtain rfl : x4 = .int .i64 0 := f4
        obtain ⟨x5, t5, f5⟩ := hJ.fact 5 135 (by decide) (by kernel_rfl)
        obtain rfl : x5 = .int .i64 3 := f5
        obtain ⟨x6, t6, f6⟩ := hJ.fact 6 21 (by decide) (by kernel_rfl)
        obtain rfl : x6 = .int .i64 0 := f6
        obtain ⟨x7, t7, f7⟩ := hJ.fact 7 22 (by decide) (by kernel_rfl)
        obtain rfl : x7 = .int .i64 3 := f7
        have hfr := hJ.frame [(131, x0), (132, .agg #[.int .i64 1, .int .i64 0]), (133, .tuple #[.int .i64 0, .int .i64 3]), (130, .tuple #[.int .i64 0, .int .i64 3]), (134, .int .i64 0), (135, .int .i64 3), (21, .int .i64 0), (22, .int .i64 3)] (by simp [t0, t1, t2, t3, t4, t5, t6, t7]) (by kernel_rfl)
        have G := hJ.keep
        clear hJ t0 t1 t2 t3 t4 t5 t6 t7
        rw [hfr]
        clear hfr Tk
        simp only [List.foldl_cons, List.foldl_nil, List.setIfInBounds_toArray, List.set_cons_zero, List.set_cons_succ]
        have g0 := G.some g0
        have g1 := G.some g1
        have b0 := G.some b0
        have b1 := G.some b1
        have hg0 := cellBlock g0
        have hb0 := cellBlock b0
        have KK := Lib.hid (KK.out.trans G)
        clear f0 G
        go_wp2_with fail
        go_at_call 35
        refine (backlog_is 1 2 1 0 0 141 _ N3).mono ?_
        rintro _ w2 ⟨rfl, k2⟩
        have g0 := k2.some (by first | exact g0 | exact cell_alloc_old _ g0 | exact cell_alloc_old _ (cell_alloc_old _ g0) | exact cell_alloc_old _ (cell_alloc_old _ (cell_alloc_old _ g0)))
        have g1 := k2.some (by first | exact g1 | exact cell_alloc_old _ g1 | exact cell_alloc_old _ (cell_alloc_old _ g1) | exact cell_alloc_old _ (cell_alloc_old _ (cell_alloc_old _ g1)))
        have b0 := k2.some (by first | exact b0 | exact cell_alloc_old _ b0 | exact cell_alloc_old _ (cell_alloc_old _ b0) | exact cell_alloc_old _ (cell_alloc_old _ (cell_alloc_old _ b0)))
        have b1 := k2.some (by first | exact b1 | exact cell_alloc_old _ b1 | exact cell_alloc_old _ (cell_alloc_old _ b1) | exact cell_alloc_old _ (cell_alloc_old _ (cell_alloc_old _ b1)))
        have KK := Lib.hid (by first | exact KK.out.trans k2 | exact (KK.out.alloc _).trans k2 | exact ((KK.out.alloc _).alloc _).trans k2 | exact (((KK.out.alloc _).alloc _).alloc _).trans k2)
        have hg0 := cellBlock g0
        have hb0 := cellBlock b0
        go_wp2_with fail
        go_at_call 37
        refine (output_is 1048576 1 1 0 0 0 6 _ N4).mono ?_
        rintro _ w3 ⟨rfl, k3⟩
        have g0 := k3.some (by first | exact g0 | exact cell_alloc_old _ g0 | exact cell_alloc_old _ (cell_alloc_old _ g0) | exact cell_alloc_old _ (cell_alloc_old _ (cell_alloc_old _ g0)))
        have g1 := k3.some (by first | exact g1 | exact cell_alloc_old _ g1 | exact cell_alloc_old _ (cell_alloc_old _ g1) | exact cell_alloc_old _ (cell_alloc_old _ (cell_alloc_old _ g1)))
        have b0 := k3.some (by first | exact b0 | exact cell_alloc_old _ b0 | exact cell_alloc_old _ (cell_alloc_old _ b0) | exact cell_alloc_old _ (cell_alloc_old _ (cell_alloc_old _ b0)))
        have b1 := k3.some (by first | exact b1 | exact cell_alloc_old _ b1 | exact cell_alloc_old _ (cell_alloc_old _ b1) | exact cell_alloc_old _ (cell_alloc_old _ (cell_alloc_old _ b1)))
        have KK := Lib.hid (by first | exact KK.out.trans k3 | exact (KK.out.alloc _).trans k3 | exact ((KK.out.alloc _).alloc _).trans k3 | exact (((KK.out.alloc _).alloc _).alloc _).trans k3)
        have hg0 := cellBlock g0
        have hb0 := cellBlock b0
        go_wp2_with fail
        go_at_call 28
        refine (join_is 1 268435456 1 1 0 0 6 _ N5).mono ?_
        rintro _ w4 ⟨rfl, k4⟩
        have g0 := k4.some (by first | exact g0 | exact cell_alloc_old _ g0 | exact cell_alloc_old _ (cell_alloc_old _ g0) | exact cell_alloc_old _ (cell_alloc_old _ (cell_alloc_old _ g0)))
        have g1 := k4.some (by first | exact g1 | exact cell_alloc_old _ g1 | exact cell_alloc_old _ (cell_alloc_old _ g1) | exact cell_alloc_old _ (cell_alloc_old _ (cell_alloc_old _ g1)))
        have b0 := k4.some (by first | exact b0 | exact cell_alloc_old _ b0 | exact cell_alloc_old _ (cell_alloc_old _ b0) | exact cell_alloc_old _ (cell_alloc_old _ (cell_alloc_old _ b0)))
        have b1 := k4.some (by first | exact b1 | exact cell_alloc_old _ b1 | exact cell_alloc_old _ (cell_alloc_old _ b1) | exact cell_alloc_old _ (cell_alloc_old _ (cell_alloc_old _ b1)))
        have KK := Lib.hid (by first | exact KK.out.trans k4 | exact (KK.out.alloc _).trans k4 | exact ((KK.out.alloc _).alloc _).trans k4 | exact (((KK.out.alloc _).alloc _).alloc _).trans k4)
        have hg0 := cellBlock g0
        have hb0 := cellBlock b0
        go_wp2_with fail
        go_at_call 28
        refine (join_is 9 268435455 7 1 7 268435456 0 _ N6).mono ?_
        rintro _ w5 ⟨rfl, k5⟩
        have g0 := k5.some (by first | exact g0 | exact cell_alloc_old _ g0 | exact cell_alloc_old _ (cell_alloc_old _ g0) | exact cell_alloc_old _ (cell_alloc_old _ (cell_alloc_old _ g0)))
        have g1 := k5.some (by first | exact g1 | exact cell_alloc_old _ g1 | exact cell_alloc_old _ (cell_alloc_old _ g1) | exact cell_alloc_old _ (cell_alloc_old _ (cell_alloc_old _ g1)))
        have b0 := k5.some (by first | exact b0 | exact cell_alloc_old _ b0 | exact cell_alloc_old _ (cell_alloc_old _ b0) | exact cell_alloc_old _ (cell_alloc_old _ (cell_alloc_old _ b0)))
        have b1 := k5.some (by first | exact b1 | exact cell_alloc_old _ b1 | exact cell_alloc_old _ (cell_alloc_old _ b1) | exact cell_alloc_old _ (cell_alloc_old _ (cell_alloc_old _ b1)))
        have KK := Lib.hid (by first | exact KK.out.trans k5 | exact (KK.out.alloc _).trans k5 | exact ((KK.out.alloc _).alloc _).trans k5 | exact (((KK.out.alloc _).alloc _).alloc _).trans k5)
        have hg0 := cellBlock g0
        have hb0 := cellBlock b0
        go_wp2_with fail
        go_at_call 40
        refine (drain_slice none 0 0 [] 1 0 _ _ (Lib.hid (Or.inl ⟨rfl, rfl⟩)) N7).mono ?_
        rintro _ w6 ⟨v6, rfl, hl, k6⟩
        have j0 : w6.cell? ⟨w5.heap.size, 0, none⟩ = some (.int .i64 7) := k6.some (by first | (simp [go_sem]; done) | exact cell_alloc_old _ (by simp [go_sem]) | exact cell_alloc_old _ (cell_alloc_old _ (by simp [go_sem])))
        have j1 : w6.cell? ⟨w5.heap.size, 1, none⟩ = some (.int .i64 268435456) := k6.some (by first | (simp [go_sem]; done) | exact cell_alloc_old _ (by simp [go_sem]) | exact cell_alloc_old _ (cell_alloc_old _ (by simp [go_sem])))
        have g0 := k6.some (by first | exact g0 | exact cell_alloc_old _ g0 | exact cell_alloc_old _ (cell_alloc_old _ g0) | exact cell_alloc_old _ (cell_alloc_old _ (cell_alloc_old _ g0)))
        have g1 := k6.some (by first | exact g1 | exact cell_alloc_old _ g1 | exact cell_alloc_old _ (cell_alloc_old _ g1) | exact cell_alloc_old _ (cell_alloc_old _ (cell_alloc_old _ g1)))
        have b0 := k6.some (by first | exact b0 | exact cell_alloc_old _ b0 | exact cell_alloc_old _ (cell_alloc_old _ b0) | exact cell_alloc_old _ (cell_alloc_old _ (cell_alloc_old _ b0)))
        have b1 := k6.some (by first | exact b1 | exact cell_alloc_old _ b1 | exact cell_alloc_old _ (cell_alloc_old _ b1) | exact cell_alloc_old _ (cell_alloc_old _ (cell_alloc_old _ b1)))
        have KK := Lib.hid (by first | exact KK.out.trans k6 | exact (KK.out.alloc _).trans k6 | exact ((KK.out.alloc _).alloc _).trans k6 | exact (((KK.out.alloc _).alloc _).alloc _).trans k6)
        have hg0 := cellBlock g0
        have hb0 := cellBlock b0
        have hj0 := cellBlock j0
        obtain ⟨va, vc, rfl⟩ := listNil hl
        clear hl
        go_wp2_with fail
        go_at_call 44
        refine (delayed_yes _ 1 1 [(1, 1)] 1 0 1048576 _ (Lib.hid (rowAll _ [(1, 1)] _ _ _ 1 (by simp) rfl rfl (by simp))) N8).mono ?_
        rintro _ w7 ⟨rfl, k7⟩
        have f0 : w7.cell? ⟨w6.heap.size, 0, none⟩ = some (.int .i64 10) := k7.some (by first | (simp [go_sem]; done) | exact cell_alloc_old _ (by simp [go_sem]) | exact cell_alloc_old _ (cell_alloc_old _ (by simp [go_sem])))
        have f1 : w7.cell? ⟨w6.heap.size, 1, none⟩ = some (.int .i64 2097152) := k7.some (by first | (simp [go_sem]; done) | exact cell_alloc_old _ (by simp [go_sem]) | exact cell_alloc_old _ (cell_alloc_old _ (by simp [go_sem])))
        have e0 : w7.cell? ⟨w6.heap.size + 1, 0, none⟩ = some (.int .i64 1048576) := k7.some (by first | (simp [go_sem]; done) | exact cell_alloc_old _ (by simp [go_sem]) | exact cell_alloc_old _ (cell_alloc_old _ (by simp [go_sem])))
        have e1 : w7.cell? ⟨w6.heap.size + 1, 1, none⟩ = some (.int .i64 3) := k7.some (by first | (simp [go_sem]; done) | exact cell_alloc_old _ (by simp [go_sem]) | exact cell_alloc_old _ (cell_alloc_old _ (by simp [go_sem])))
        have g0 := k7.some (by first | exact g0 | exact cell_alloc_old _ g0 | exact cell_alloc_old _ (cell_alloc_old _ g0) | exact cell_alloc_old _ (cell_alloc_old _ (cell_alloc_old _ g0)))
        have g1 := k7.some (by first | exact g1 | exact cell_alloc_old _ g1 | exact cell_alloc_old _ (cell_alloc_old _ g1) | exact cell_alloc_old _ (cell_alloc_old _ (cell_alloc_old _ g1)))
        have b0 := k7.some (by first | exact b0 | exact cell_alloc_old _ b0 | exact cell_alloc_old _ (cell_alloc_old _ b0) | exact cell_alloc_old _ (cell_alloc_old _ (cell_alloc_old _ b0)))
        have b1 := k7.some (by first | exact b1 | exact cell_alloc_old _ b1 | exact cell_alloc_old _ (cell_alloc_old _ b1) | exact cell_alloc_old _ (cell_alloc_old _ (cell_alloc_old _ b1)))
        have j0 := k7.some (by first | exact j0 | exact cell_alloc_old _ j0 | exact cell_alloc_old _ (cell_alloc_old _ j0) | exact cell_alloc_old _ (cell_alloc_old _ (cell_alloc_old _ j0)))
        have j1 := k7.some (by first | exact j1 | exact cell_alloc_old _ j1 | exact cell_alloc_old _ (cell_alloc_old _ j1) | exact cell_alloc_old _ (cell_alloc_old _ (cell_alloc_old _ j1)))
        have KK := Lib.hid (by first | exact KK.out.trans k7 | exact (KK.out.alloc _).trans k7 | exact ((KK.out.alloc _).alloc _).trans k7 | exact (((KK.out.alloc _).alloc _).alloc _).trans k7)
        have hg0 := cellBlock g0
        have hb0 := cellBlock b0
        have hj0 := cellBlock j0
        have hf0 := cellBlock f0
        have he0 := cellBlock e0
        go_wp2_with fail
        go_at_call 44
        refine (delayed_yes _ 1 1 [(1048576, 1)] 1 0 1099511627776 _ (Lib.hid (rowAll _ [(1048576, 1)] _ _ _ 1 (by simp) rfl rfl (by simp))) N9).mono ?_
        rintro _ w8 ⟨rfl, k8⟩
        have g0 := k8.some (by first | exact g0 | exact cell_alloc_old _ g0 | exact cell_alloc_old _ (cell_alloc_old _ g0) | exact cell_alloc_old _ (cell_alloc_old _ (cell_alloc_old _ g0)))
        have g1 := k8.some (by first | exact g1 | exact cell_alloc_old _ g1 | exact cell_alloc_old _ (cell_alloc_old _ g1) | exact cell_alloc_old _ (cell_alloc_old _ (cell_alloc_old _ g1)))
        have b0 := k8.some (by first | exact b0 | exact cell_alloc_old _ b0 | exact cell_alloc_old _ (cell_alloc_old _ b0) | exact cell_alloc_old _ (cell_alloc_old _ (cell_alloc_old _ b0)))
        have b1 := k8.some (by first | exact b1 | exact cell_alloc_old _ b1 | exact cell_alloc_old _ (cell_alloc_old _ b1) | exact cell_alloc_old _ (cell_alloc_old _ (cell_alloc_old _ b1)))
        have j0 := k8.some (by first | exact j0 | exact cell_alloc_old _ j0 | exact cell_alloc_old _ (cell_alloc_old _ j0) | exact cell_alloc_old _ (cell_alloc_old _ (cell_alloc_old _ j0)))
        have j1 := k8.some (by first | exact j1 | exact cell_alloc_old _ j1 | exact cell_alloc_old _ (cell_alloc_old _ j1) | exact cell_alloc_old _ (cell_alloc_old _ (cell_alloc_old _ j1)))
        have f0 := k8.some (by first | exact f0 | exact cell_alloc_old _ f0 | exact cell_alloc_old _ (cell_alloc_old _ f0) | exact cell_alloc_old _ (cell_alloc_old _ (cell_alloc_old _ f0)))
        have f1 := k8.some (by first | exact f1 | exact cell_alloc_old _ f1 | exact cell_alloc_old _ (cell_alloc_old _ f1) | exact cell_alloc_old _ (cell_alloc_old _ (cell_alloc_old _ f1)))
        have e0 := k8.some (by first | exact e0 | exact cell_alloc_old _ e0 | exact cell_alloc_old _ (cell_alloc_old _ e0) | exact cell_alloc_old _ (cell_alloc_old _ (cell_alloc_old _ e0)))
        have e1 := k8.some (by first | exact e1 | exact cell_alloc_old _ e1 | exact cell_alloc_old _ (cell_alloc_old _ e1) | exact cell_alloc_old _ (cell_alloc_old _ (cell_alloc_old _ e1)))
        have KK := Lib.hid (by first | exact KK.out.trans k8 | exact (KK.out.alloc _).trans k8 | exact ((KK.out.alloc _).alloc _).trans k8 | exact (((KK.out.alloc _).alloc _).alloc _).trans k8)
        have hg0 := cellBlock g0
        have hb0 := cellBlock b0
        have hj0 := cellBlock j0
        have hf0 := cellBlock f0
        have he0 := cellBlock e0
        go_wp2_with fail
        go_at_call 44
        refine (delayed_yes _ 2 2 [(10, 1048576), (10, 2097152)] 1048576 3 13 _ (Lib.hid (rowAll _ [(10, 1048576), (10, 2097152)] _ _ _ 2 (by simp) rfl rfl (by simp))) N10).mono ?_
        rintro _ w9 ⟨rfl, k9⟩
        have g0 := k9.some (by first | exact g0 | exact cell_alloc_old _ g0 | exact cell_alloc_old _ (cell_alloc_old _ g0) | exact cell_alloc_old _ (cell_alloc_old _ (cell_alloc_old _ g0)))
        have g1 := k9.some (by first | exact g1 | exact cell_alloc_old _ g1 | exact cell_alloc_old _ (cell_alloc_old _ g1) | exact cell_alloc_old _ (cell_alloc_old _ (cell_alloc_old _ g1)))
        have b0 := k9.some (by first | exact b0 | exact cell_alloc_old _ b0 | exact cell_alloc_old _ (cell_alloc_old _ b0) | exact cell_alloc_old _ (cell_alloc_old _ (cell_alloc_old _ b0)))
        have b1 := k9.some (by first | exact b1 | exact cell_alloc_old _ b1 | exact cell_alloc_old _ (cell_alloc_old _ b1) | exact cell_alloc_old _ (cell_alloc_old _ (cell_alloc_old _ b1)))
        have j0 := k9.some (by first | exact j0 | exact cell_alloc_old _ j0 | exact cell_alloc_old _ (cell_alloc_old _ j0) | exact cell_alloc_old _ (cell_alloc_old _ (cell_alloc_old _ j0)))
        have j1 := k9.some (by first | exact j1 | exact cell_alloc_old _ j1 | exact cell_alloc_old _ (cell_alloc_old _ j1) | exact cell_alloc_old _ (cell_alloc_old _ (cell_alloc_old _ j1)))
        have f0 := k9.some (by first | exact f0 | exact cell_alloc_old _ f0 | exact cell_alloc_old _ (cell_alloc_old _ f0) | exact cell_alloc_old _ (cell_alloc_old _ (cell_alloc_old _ f0)))
        have f1 := k9.some (by first | exact f1 | exact cell_alloc_old _ f1 | exact cell_alloc_old _ (cell_alloc_old _ f1) | exact cell_alloc_old _ (cell_alloc_old _ (cell_alloc_old _ f1)))
        have e0 := k9.some (by first | exact e0 | exact cell_alloc_old _ e0 | exact cell_alloc_old _ (cell_alloc_old _ e0) | exact cell_alloc_old _ (cell_alloc_old _ (cell_alloc_old _ e0)))
        have e1 := k9.some (by first | exact e1 | exact cell_alloc_old _ e1 | exact cell_alloc_old _ (cell_alloc_old _ e1) | exact cell_alloc_old _ (cell_alloc_old _ (cell_alloc_old _ e1)))
        have KK := Lib.hid (by first | exact KK.out.trans k9 | exact (KK.out.alloc _).trans k9 | exact ((KK.out.alloc _).alloc _).trans k9 | exact (((KK.out.alloc _).alloc _).alloc _).trans k9)
        have hg0 := cellBlock g0
        have hb0 := cellBlock b0
        have hj0 := cellBlock j0
        have hf0 := cellBlock f0
        have he0 := cellBlock e0
        go_wp2_with fail
        go_at_call 44
        refine (delayed_yes _ 3 3 [(10, 1), (10, 2097152), (10, 2097152)] 1048576 3 13 _ (Lib.hid (rowAll _ [(10, 1), (10, 2097152), (10, 2097152)] _ _ _ 3 (by simp) rfl rfl (by simp))) N11).mono ?_
        rintro _ w10 ⟨rfl, k10⟩
        have g0 := k10.some (by first | exact g0 | exact cell_alloc_old _ g0 | exact cell_alloc_old _ (cell_alloc_old _ g0) | exact cell_alloc_old _ (cell_alloc_old _ (cell_alloc_old _ g0)))
        have g1 := k10.some (by first | exact g1 | exact cell_alloc_old _ g1 | exact cell_alloc_old _ (cell_alloc_old _ g1) | exact cell_alloc_old _ (cell_alloc_old _ (cell_alloc_old _ g1)))
        have b0 := k10.some (by first | exact b0 | exact cell_alloc_old _ b0 | exact cell_alloc_old _ (cell_alloc_old _ b0) | exact cell_alloc_old _ (cell_alloc_old _ (cell_alloc_old _ b0)))
        have b1 := k10.some (by first | exact b1 | exact cell_alloc_old _ b1 | exact cell_alloc_old _ (cell_alloc_old _ b1) | exact cell_alloc_old _ (cell_alloc_old _ (cell_alloc_old _ b1)))
        have j0 := k10.some (by first | exact j0 | exact cell_alloc_old _ j0 | exact cell_alloc_old _ (cell_alloc_old _ j0) | exact cell_alloc_old _ (cell_alloc_old _ (cell_alloc_old _ j0)))
        have j1 := k10.some (by first | exact j1 | exact cell_alloc_old _ j1 | exact cell_alloc_old _ (cell_alloc_old _ j1) | exact cell_alloc_old _ (cell_alloc_old _ (cell_alloc_old _ j1)))
        have f0 := k10.some (by first | exact f0 | exact cell_alloc_old _ f0 | exact cell_alloc_old _ (cell_alloc_old _ f0) | exact cell_alloc_old _ (cell_alloc_old _ (cell_alloc_old _ f0)))
        have f1 := k10.some (by first | exact f1 | exact cell_alloc_old _ f1 | exact cell_alloc_old _ (cell_alloc_old _ f1) | exact cell_alloc_old _ (cell_alloc_old _ (cell_alloc_old _ f1)))
        have e0 := k10.some (by first | exact e0 | exact cell_alloc_old _ e0 | exact cell_alloc_old _ (cell_alloc_old _ e0) | exact cell_alloc_old _ (cell_alloc_old _ (cell_alloc_old _ e0)))
        have e1 := k10.some (by first | exact e1 | exact cell_alloc_old _ e1 | exact cell_alloc_old _ (cell_alloc_old _ e1) | exact cell_alloc_old _ (cell_alloc_old _ (cell_alloc_old _ e1)))
        have KK := Lib.hid (by first | exact KK.out.trans k10 | exact (KK.out.alloc _).trans k10 | exact ((KK.out.alloc _).alloc _).trans k10 | exact (((KK.out.alloc _).alloc _).alloc _).trans k10)
        have hg0 := cellBlock g0
        have hb0 := cellBlock b0
        have hj0 := cellBlock j0
        have hf0 := cellBlock f0
        have he0 := cellBlock e0
        go_wp2_with fail
        go_at_call 44
        refine (delayed_yes _ 2 2 [(20, 1048576), (10, 2097152)] 1048576 3 23 _ (Lib.hid (rowAll _ [(20, 1048576), (10, 2097152)] _ _ _ 2 (by simp) rfl rfl (by simp))) N12).mono ?_
        rintro _ w11 ⟨rfl, k11⟩
        have g0 := k11.some (by first | exact g0 | exact cell_alloc_old _ g0 | exact cell_alloc_old _ (cell_alloc_old _ g0) | exact cell_alloc_old _ (cell_alloc_old _ (cell_alloc_old _ g0)))
        have g1 := k11.some (by first | exact g1 | exact cell_alloc_old _ g1 | exact cell_alloc_old _ (cell_alloc_old _ g1) | exact cell_alloc_old _ (cell_alloc_old _ (cell_alloc_old _ g1)))
        have b0 := k11.some (by first | exact b0 | exact cell_alloc_old _ b0 | exact cell_alloc_old _ (cell_alloc_old _ b0) | exact cell_alloc_old _ (cell_alloc_old _ (cell_alloc_old _ b0)))
        have b1 := k11.some (by first | exact b1 | exact cell_alloc_old _ b1 | exact cell_alloc_old _ (cell_alloc_old _ b1) | exact cell_alloc_old _ (cell_alloc_old _ (cell_alloc_old _ b1)))
        have j0 := k11.some (by first | exact j0 | exact cell_alloc_old _ j0 | exact cell_alloc_old _ (cell_alloc_old _ j0) | exact cell_alloc_old _ (cell_alloc_old _ (cell_alloc_old _ j0)))
        have j1 := k11.some (by first | exact j1 | exact cell_alloc_old _ j1 | exact cell_alloc_old _ (cell_alloc_old _ j1) | exact cell_alloc_old _ (cell_alloc_old _ (cell_alloc_old _ j1)))
        have f0 := k11.some (by first | exact f0 | exact cell_alloc_old _ f0 | exact cell_alloc_old _ (cell_alloc_old _ f0) | exact cell_alloc_old _ (cell_alloc_old _ (cell_alloc_old _ f0)))
        have f1 := k11.some (by first | exact f1 | exact cell_alloc_old _ f1 | exact cell_alloc_old _ (cell_alloc_old _ f1) | exact cell_alloc_old _ (cell_alloc_old _ (cell_alloc_old _ f1)))
        have e0 := k11.some (by first | exact e0 | exact cell_alloc_old _ e0 | exact cell_alloc_old _ (cell_alloc_old _ e0) | exact cell_alloc_old _ (cell_alloc_old _ (cell_alloc_old _ e0)))
        have e1 := k11.some (by first | exact e1 | exact cell_alloc_old _ e1 | exact cell_alloc_old _ (cell_alloc_old _ e1) | exact cell_alloc_old _ (cell_alloc_old _ (cell_alloc_old _ e1)))
        have KK := Lib.hid (by first | exact KK.out.trans k11 | exact (KK.out.alloc _).trans k11 | exact ((KK.out.alloc _).alloc _).trans k11 | exact (((KK.out.alloc _).alloc _).alloc _).trans k11)
        have hg0 := cellBlock g0
        have hb0 := cellBlock b0
        have hj0 := cellBlock j0
        have hf0 := cellBlock f0
        have he0 := cellBlock e0
        go_wp2_with fail
        go_at_call 32
        refine (works4_yes _).mono ?_
        rintro _ w12 ⟨rfl, k12⟩
        have g0 := k12.some (by first | exact g0 | exact cell_alloc_old _ g0 | exact cell_alloc_old _ (cell_alloc_old _ g0) | exact cell_alloc_old _ (cell_alloc_old _ (cell_alloc_old _ g0)))
        have g1 := k12.some (by first | exact g1 | exact cell_alloc_old _ g1 | exact cell_alloc_old _ (cell_alloc_old _ g1) | exact cell_alloc_old _ (cell_alloc_old _ (cell_alloc_old _ g1)))
        have b0 := k12.some (by first | exact b0 | exact cell_alloc_old _ b0 | exact cell_alloc_old _ (cell_alloc_old _ b0) | exact cell_alloc_old _ (cell_alloc_old _ (cell_alloc_old _ b0)))
        have b1 := k12.some (by first | exact b1 | exact cell_alloc_old _ b1 | exact cell_alloc_old _ (cell_alloc_old _ b1) | exact cell_alloc_old _ (cell_alloc_old _ (cell_alloc_old _ b1)))
        have j0 := k12.some (by first | exact j0 | exact cell_alloc_old _ j0 | exact cell_alloc_old _ (cell_alloc_old _ j0) | exact cell_alloc_old _ (cell_alloc_old _ (cell_alloc_old _ j0)))
        have j1 := k12.some (by first | exact j1 | exact cell_alloc_old _ j1 | exact cell_alloc_old _ (cell_alloc_old _ j1) | exact cell_alloc_old _ (cell_alloc_old _ (cell_alloc_old _ j1)))
        have f0 := k12.some (by first | exact f0 | exact cell_alloc_old _ f0 | exact cell_alloc_old _ (cell_alloc_old _ f0) | exact cell_alloc_old _ (cell_alloc_old _ (cell_alloc_old _ f0)))
        have f1 := k12.some (by first | exact f1 | exact cell_alloc_old _ f1 | exact cell_alloc_old _ (cell_alloc_old _ f1) | exact cell_alloc_old _ (cell_alloc_old _ (cell_alloc_old _ f1)))
        have e0 := k12.some (by first | exact e0 | exact cell_alloc_old _ e0 | exact cell_alloc_old _ (cell_alloc_old _ e0) | exact cell_alloc_old _ (cell_alloc_old _ (cell_alloc_old _ e0)))
        have e1 := k12.some (by first | exact e1 | exact cell_alloc_old _ e1 | exact cell_alloc_old _ (cell_alloc_old _ e1) | exact cell_alloc_old _ (cell_alloc_old _ (cell_alloc_old _ e1)))
        have KK := Lib.hid (by first | exact KK.out.trans k12 | exact (KK.out.alloc _).trans k12 | exact ((KK.out.alloc _).alloc _).trans k12 | exact (((KK.out.alloc _).alloc _).alloc _).trans k12)
        have hg0 := cellBlock g0
        have hb0 := cellBlock b0
        have hj0 := cellBlock j0
        have hf0 := cellBlock f0
        have he0 := cellBlock e0
        go_wp2
        go_ret
        exact ⟨rfl, KK.out⟩
      case stepsk =>
        refine LinSteps.cons (k := 0) ?_ (LinSteps.cons (k := 1) ?_ (LinSteps.cons (k := 2) ?_ (LinSteps.cons (k := 3) ?_ (LinSteps.cons (k := 4) ?_ (LinSteps.cons (k := 5) ?_ (LinSteps.cons (k := 6) ?_ (LinSteps.cons (k := 7) ?_ (LinSteps.nil))))))))
        · -- 0
          refine LinStep.plain rfl ?_
          intro QQ bb T ww hn hJ hd K HK
          have G := hJ.keep
          clear hJ hd hn
          have hmk := HMK.out
          go_simp
          exact HK.out _ _ (Keep.alloc (Keep.refl _) _) (rowMk _ 13 _ (by decide))
        · -- 1
          refine LinStep.plain rfl ?_
          intro QQ bb T ww hn hJ hd K HK
          have s1 := (hJ.oldSlot 1 (by kernel_rfl))
          simp only [List.getElem?_toArray, List.getElem?_cons_zero, List.getElem?_cons_succ] at s1
          have G := hJ.keep
          clear hJ hd hn
          have k0 := G.some g0
          have k1 := G.some g1
          go_simp
          exact HK.out _ _ (Keep.refl _) rfl
        · -- 2
          refine LinStep.plain rfl ?_
          intro QQ bb T ww hn hJ hd K HK
          obtain ⟨x0, t0, f0⟩ := hJ.dep hd 0 131 (by kernel_rfl) (by kernel_rfl)
          replace f0 : RowAt ww x0 (List.replicate 13 (0, 0)) := f0
          obtain ⟨a0, n0, m0, rfl⟩ := f0.slice
          obtain ⟨x1, t1, f1⟩ := hJ.dep hd 1 132 (by kernel_rfl) (by kernel_rfl)
          obtain rfl : x1 = .agg #[.int .i64 1, .int .i64 0] := f1
          have G := hJ.keep
          clear hJ hd hn
          go_wp2_with (go_at_call 33; ((with_reducible refine (delay_is _ _ _ (List.replicate 13 (0, 0)) 1 0 0 3 _ (Lib.hid f0) N2).mono ?_); rintro _ w2 ⟨rfl, hk⟩))
          exact HK.out _ _ hk rfl
        · -- 3
          refine LinStep.plain rfl ?_
          intro QQ bb T ww hn hJ hd K HK
          obtain ⟨x2, t2, f2⟩ := hJ.dep hd 2 133 (by kernel_rfl) (by kernel_rfl)
          obtain rfl : x2 = .tuple #[.int .i64 0, .int .i64 3] := f2
          have G := hJ.keep
          clear hJ hd hn
          go_simp
          exact HK.out _ _ (Keep.refl _) rfl
        · -- 4
          refine LinStep.plain rfl ?_
          intro QQ bb T ww hn hJ hd K HK
          obtain ⟨x3, t3, f3⟩ := hJ.dep hd 3 130 (by kernel_rfl) (by kernel_rfl)
          obtain rfl : x3 = .tuple #[.int .i64 0, .int .i64 3] := f3
          have G := hJ.keep
          clear hJ hd hn
          go_simp
          exact HK.out _ _ (Keep.refl _) rfl
        · -- 5
          refine LinStep.plain rfl ?_
          intro QQ bb T ww hn hJ hd K HK
          obtain ⟨x3, t3, f3⟩ := hJ.dep hd 3 130 (by kernel_rfl) (by kernel_rfl)
          obtain rfl : x3 = .tuple #[.int .i64 0, .int .i64 3] := f3
          have G := hJ.keep
          clear hJ hd hn
          go_simp
          exact HK.out _ _ (Keep.refl _) rfl
        · -- 6
          refine LinStep.plain rfl ?_
          intro QQ bb T ww hn hJ hd K HK
          obtain ⟨x4, t4, f4⟩ := hJ.dep hd 4 134 (by kernel_rfl) (by kernel_rfl)
          obtain rfl : x4 = .int .i64 0 := f4
          have G := hJ.keep
          clear hJ hd hn
          go_simp
          exact HK.out _ _ (Keep.refl _) rfl
        · -- 7
          refine LinStep.plain rfl ?_
          intro QQ bb T ww hn hJ hd K HK
          obtain ⟨x5, t5, f5⟩ := hJ.dep hd 5 135 (by kernel_rfl) (by kernel_rfl)
          obtain rfl : x5 = .int .i64 3 := f5
          have G := hJ.keep
          clear hJ hd hn
          go_simp
          exact HK.out _ _ (Keep.refl _) rfl

end Go.Proofs.Ytmamadgikjkjdaa
