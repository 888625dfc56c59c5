/- NumCommons' walk where the list is not nil: the program and the reference answer the same. -/
import Derived.Test.YtbdjdmgohjjnaaaDoorComFill
namespace Go.Proofs.YtbdjdmgohjjnaaaDoor
open Go Go.RowKit

set_option maxRecDepth 100000 in
set_option maxHeartbeats 4000000 in
theorem commons_list (b off n cap m : Nat) (zs : List Int) (n0 n1 h0 h1 r0 r1 x0 x1 y1 : Int) (w : World) (hT : Tab w) (N0 : NearIs n0 h0 r0) (N1 : NearIs n1 h1 r1)
    (K1 : Hid (IntKind.i64.wrap ((IntKind.u64.wrap n0).tmod 3000) = x0)) (K2 : Hid (IntKind.i64.wrap ((IntKind.u64.wrap n1).tmod 3000) = y1)) (K3 : Hid (IntKind.i64.wrap (-y1) = x1))
    (hz : zs.length = n) (hn : n ≤ 9223372036854775807) (hnc : n ≤ cap) (hmn : min n 12 = m) (hcell : ∀ j, j < n → w.cell? ⟨b, off + j, none⟩ = some (.int .i64 (zs.getD j 0))) :
    Calls Tryd.prog 6 #[.agg #[.int .i64 n0, .int .i64 n1], .agg #[.int .u8 h0, .int .u8 h1], .slice (some ⟨b, off, none⟩) n cap] w fun e w' => e = .returned (.bool true) ∧ Keep w w' := by
  have HT := Lib.hid hT
  have HN0 := Lib.hid N0
  have HN1 := Lib.hid N1
  have HC := Lib.hid hcell
  clear hT N0 N1 hcell
  have i0 : ∀ w, (Instr.index 25 (.agg #[.int .i64 n0, .int .i64 n1, .int .i64 r0, .int .i64 r1, .int .i64 x0, .int .i64 x1]) (.int .i64 0)).run Tryd.prog w = .ok (.agg #[.int .i64 n0, .int .i64 n1]) w := fun _ => by kernel_rfl
  have i1 : ∀ w, (Instr.index 25 (.agg #[.int .i64 n0, .int .i64 n1, .int .i64 r0, .int .i64 r1, .int .i64 x0, .int .i64 x1]) (.int .i64 1)).run Tryd.prog w = .ok (.agg #[.int .i64 r0, .int .i64 r1]) w := fun _ => by kernel_rfl
  have i2 : ∀ w, (Instr.index 25 (.agg #[.int .i64 n0, .int .i64 n1, .int .i64 r0, .int .i64 r1, .int .i64 x0, .int .i64 x1]) (.int .i64 2)).run Tryd.prog w = .ok (.agg #[.int .i64 x0, .int .i64 x1]) w := fun _ => by kernel_rfl
  have mn : min (n : Int) 12 = (m : Int) := by omega
  obtain ⟨e0, q1, q2, q3, q4⟩ := info_parts infoInt
  obtain ⟨WB, hWB⟩ : ∃ WB, (w.alloc (Obj.cells #[Value.int IntKind.i64 n0, Value.int IntKind.i64 n1] 22)).alloc (Obj.cells #[Value.int IntKind.u8 h0, Value.int IntKind.u8 h1] 23) = WB := ⟨_, rfl⟩
  obtain ⟨wm, hmk, hrow, hgrow⟩ := run_make_full (P := Tryd.prog) WB WB.heap.size 36 3 e0 (.int .i64 0) 1 Tryd.underlying36 q1 q2 q3 .i64 .i64 m (by rw [q4]; omega) (by unfold maxLen; omega) (Nat.le_refl _)
  have hF := Lib.hid (Fill.start (zs := zs) hgrow hrow)
  clear hrow hgrow
  have hb0 : WB.cell? ⟨w.heap.size, 0, none⟩ = some (.int .i64 n0) := by rw [← hWB]; simp [go_sem]
  have hb1 : WB.cell? ⟨w.heap.size, 1, none⟩ = some (.int .i64 n1) := by rw [← hWB]; simp [go_sem]
  have hb2 : WB.cell? ⟨w.heap.size + 1, 0, none⟩ = some (.int .u8 h0) := by rw [← hWB]; simp [go_sem]
  have hb3 : WB.cell? ⟨w.heap.size + 1, 1, none⟩ = some (.int .u8 h1) := by rw [← hWB]; simp [go_sem]
  have HKB := Lib.hid (show Keep w WB by rw [← hWB]; exact ((Keep.refl _).alloc _).alloc _)
  obtain ⟨S, hS⟩ : ∃ S, WB.heap.size = S := ⟨_, rfl⟩
  rw [hS] at hmk hF
  go_enter Tryd.func6, Tryd.ntmps6
  go_wp2_with fail
  go_loopw [8] (fun i wr => ∃ k : Nat, k ≤ m ∧ i = .int .i64 k ∧ Hid (Fill WB S m zs k wr)) (fun i _ => m - (intOf i).toNat)
  case atStart => exact ⟨0, by omega, rfl, hF⟩
  case round =>
    obtain ⟨k, hk, rfl, HFk⟩ := hrel
    by_cases hkm : k < m
    · obtain ⟨old, hold⟩ := Fill.old HFk.out hkm
      have hfz := Fill.frozen HFk.out k
      obtain ⟨z, hzk⟩ : ∃ z, zs.getD k 0 = z := ⟨_, rfl⟩
      have hcz : wr.cell? ⟨b, off + k, none⟩ = some (.int .i64 z) := Keep.some HFk.out.1 (Keep.some HKB.out (by rw [← hzk]; exact HC.out k (by omega)))
      go_wp2_with fail
      exact ⟨⟨k + 1, by omega, by simp, Lib.hid (Fill.next HFk.out (by omega) hkm (by rw [hzk]; rfl))⟩, by simp only [intOf]; omega⟩
    · obtain rfl : k = m := by omega
      obtain ⟨ss, hss, hsc⟩ := Fill.done HFk.out
      have hlenS := Lib.hid hss
      have hcS := Lib.hid hsc
      clear hss hsc
      have HKR := Lib.hid (Keep.trans HKB.out HFk.out.1)
      have HLz := Lib.hid (listAtTake hz hmn (fun j hj => Keep.some HKR.out (HC.out j hj)) (cap := cap))
      have c0 := Keep.some HFk.out.1 hb0
      have c1 := Keep.some HFk.out.1 hb1
      have c2 := Keep.some HFk.out.1 hb2
      have c3 := Keep.some HFk.out.1 hb3
      have hk12 : k ≤ 12 := by omega
      clear hF HFk hmk hb0 hb1 hb2 hb3 hWB hS mn hkm hmn hnc HC
      go_upto_region 7 with fail
      go_cut [2, 3, 4, 7, 66, 67] (fun s2 s3 s4 s7 s66 s67 wx => AtSeven w n0 n1 h0 h1 r0 r1 x0 x1 s2 s3 s4 s7 s66 s67 wx)
      case first =>
        have k1 := K1.out
        have k2 := K2.out
        have k3 := K3.out
        go_quiet ((first | (go_at_call_of 11 (Value.int IntKind.i64 n0); exact Calls.quiet_of_same (HN0.out _)) | (go_at_call_of 11 (Value.int IntKind.i64 n1); exact Calls.quiet_of_same (HN1.out _))))
        go_wp2_with fail
        go_meet
        exact ⟨rfl, rfl, rfl, rfl, Lib.hid (Keep.drewN HKR.out _), by simpa [go_sem] using c0, by simpa [go_sem] using c1, by simpa [go_sem] using c2, by simpa [go_sem] using c3, _, ss, S, k, Lib.hid (ListAt.keep HLz.out (Keep.drewN (Keep.refl _) _)), rfl, hlenS, hk12, Lib.hid (fun j hj => Keep.some (Keep.drewN (Keep.refl _) _) (hcS.out j hj))⟩
      case rest =>
        obtain ⟨rfl, rfl, rfl, rfl, HK0, f0, f1, f2, f3, zs, ss, S, m, HL, rfl, hlen, hm, hcells⟩ := hcut
        have HTX := Lib.hid (HeldK.tab HK0.out HT.out)
        go_wp2_with fail
        go_loopw [67] (fun i wr => ∃ k : Nat, k ≤ 3 ∧ i = .int .i64 k ∧ Hid (HeldK wc wr)) (fun i _ => 3 - (intOf i).toNat)
        case atStart => exact ⟨0, by omega, rfl, Lib.hid (Keep.refl _)⟩
        case round =>
          obtain ⟨k, hk, rfl, HK⟩ := hrel
          obtain rfl | rfl | rfl | rfl : k = 0 ∨ k = 1 ∨ k = 2 ∨ k = 3 := by omega
          · -- round 0
            obtain ⟨g, hg⟩ : ∃ g, gcdS n0 n1 = g := ⟨_, rfl⟩
            have HG := Lib.hid hg
            clear hg
            go_wp2_with fail
            have c0 : (wr.alloc (Obj.cells #[Value.int IntKind.i64 n0, Value.int IntKind.i64 n1] 22)).cell? ⟨wr.heap.size, 0, none⟩ = some (.int .i64 n0) := by simp [go_sem]
            have c1 : (wr.alloc (Obj.cells #[Value.int IntKind.i64 n0, Value.int IntKind.i64 n1] 22)).cell? ⟨wr.heap.size, 1, none⟩ = some (.int .i64 n1) := by simp [go_sem]
            have hk0 : HeldK wc (wr.alloc (Obj.cells #[Value.int IntKind.i64 n0, Value.int IntKind.i64 n1] 22)) := HK.out.alloc _
            generalize wr.alloc (Obj.cells #[Value.int IntKind.i64 n0, Value.int IntKind.i64 n1] 22) = wa at *
            go_region_held3 (fun w' => w'.cell? ⟨wr.heap.size, 0, none⟩ = some (.int .i64 n0) ∧ w'.cell? ⟨wr.heap.size, 1, none⟩ = some (.int .i64 n1) ∧ HeldK wc w') (first | (exact ⟨by assumption, by assumption, by assumption⟩) | (exact ⟨grownSome (by assumption) (‹_ ∧ _ ∧ HeldK wc _›).1, grownSome (by assumption) (‹_ ∧ _ ∧ HeldK wc _›).2.1, HeldK.next (‹_ ∧ _ ∧ HeldK wc _›).2.2 (by assumption)⟩) | (refine ⟨?_, ?_, HeldK.drew (by assumption)⟩ <;> simp [*])) (first | (go_at_call 27; ((with_reducible refine (gcd_is n0 n1 g _ (HeldK.tab (‹_ ∧ _ ∧ HeldK wc _›).2.2 HTX.out) HG.out).mono ?_); rintro e w3 ⟨rfl, hg3⟩)) | (go_at_call 28; ((with_reducible refine (refGcd_is n0 n1 g HG.out _).mono ?_); rintro e w3 ⟨rfl, hg3⟩)))
            go_wp2
            go_roundw
            case rel => exact ⟨1, by omega, rfl, Lib.hid (‹_ ∧ _ ∧ HeldK wc _›).2.2⟩
            case measure => simp [intOf]
          · -- round 1
            obtain ⟨g, hg⟩ : ∃ g, gcdS r0 r1 = g := ⟨_, rfl⟩
            have HG := Lib.hid hg
            clear hg
            go_wp2_with fail
            have c0 : (wr.alloc (Obj.cells #[Value.int IntKind.i64 r0, Value.int IntKind.i64 r1] 22)).cell? ⟨wr.heap.size, 0, none⟩ = some (.int .i64 r0) := by simp [go_sem]
            have c1 : (wr.alloc (Obj.cells #[Value.int IntKind.i64 r0, Value.int IntKind.i64 r1] 22)).cell? ⟨wr.heap.size, 1, none⟩ = some (.int .i64 r1) := by simp [go_sem]
            have hk0 : HeldK wc (wr.alloc (Obj.cells #[Value.int IntKind.i64 r0, Value.int IntKind.i64 r1] 22)) := HK.out.alloc _
            generalize wr.alloc (Obj.cells #[Value.int IntKind.i64 r0, Value.int IntKind.i64 r1] 22) = wa at *
            go_region_held3 (fun w' => w'.cell? ⟨wr.heap.size, 0, none⟩ = some (.int .i64 r0) ∧ w'.cell? ⟨wr.heap.size, 1, none⟩ = some (.int .i64 r1) ∧ HeldK wc w') (first | (exact ⟨by assumption, by assumption, by assumption⟩) | (exact ⟨grownSome (by assumption) (‹_ ∧ _ ∧ HeldK wc _›).1, grownSome (by assumption) (‹_ ∧ _ ∧ HeldK wc _›).2.1, HeldK.next (‹_ ∧ _ ∧ HeldK wc _›).2.2 (by assumption)⟩) | (refine ⟨?_, ?_, HeldK.drew (by assumption)⟩ <;> simp [*])) (first | (go_at_call 27; ((with_reducible refine (gcd_is r0 r1 g _ (HeldK.tab (‹_ ∧ _ ∧ HeldK wc _›).2.2 HTX.out) HG.out).mono ?_); rintro e w3 ⟨rfl, hg3⟩)) | (go_at_call 28; ((with_reducible refine (refGcd_is r0 r1 g HG.out _).mono ?_); rintro e w3 ⟨rfl, hg3⟩)))
            go_wp2
            go_roundw
            case rel => exact ⟨2, by omega, rfl, Lib.hid (‹_ ∧ _ ∧ HeldK wc _›).2.2⟩
            case measure => simp [intOf]
          · -- round 2
            obtain ⟨g, hg⟩ : ∃ g, gcdS x0 x1 = g := ⟨_, rfl⟩
            have HG := Lib.hid hg
            clear hg
            go_wp2_with fail
            have c0 : (wr.alloc (Obj.cells #[Value.int IntKind.i64 x0, Value.int IntKind.i64 x1] 22)).cell? ⟨wr.heap.size, 0, none⟩ = some (.int .i64 x0) := by simp [go_sem]
            have c1 : (wr.alloc (Obj.cells #[Value.int IntKind.i64 x0, Value.int IntKind.i64 x1] 22)).cell? ⟨wr.heap.size, 1, none⟩ = some (.int .i64 x1) := by simp [go_sem]
            have hk0 : HeldK wc (wr.alloc (Obj.cells #[Value.int IntKind.i64 x0, Value.int IntKind.i64 x1] 22)) := HK.out.alloc _
            generalize wr.alloc (Obj.cells #[Value.int IntKind.i64 x0, Value.int IntKind.i64 x1] 22) = wa at *
            go_region_held3 (fun w' => w'.cell? ⟨wr.heap.size, 0, none⟩ = some (.int .i64 x0) ∧ w'.cell? ⟨wr.heap.size, 1, none⟩ = some (.int .i64 x1) ∧ HeldK wc w') (first | (exact ⟨by assumption, by assumption, by assumption⟩) | (exact ⟨grownSome (by assumption) (‹_ ∧ _ ∧ HeldK wc _›).1, grownSome (by assumption) (‹_ ∧ _ ∧ HeldK wc _›).2.1, HeldK.next (‹_ ∧ _ ∧ HeldK wc _›).2.2 (by assumption)⟩) | (refine ⟨?_, ?_, HeldK.drew (by assumption)⟩ <;> simp [*])) (first | (go_at_call 27; ((with_reducible refine (gcd_is x0 x1 g _ (HeldK.tab (‹_ ∧ _ ∧ HeldK wc _›).2.2 HTX.out) HG.out).mono ?_); rintro e w3 ⟨rfl, hg3⟩)) | (go_at_call 28; ((with_reducible refine (refGcd_is x0 x1 g HG.out _).mono ?_); rintro e w3 ⟨rfl, hg3⟩)))
            go_wp2
            go_roundw
            case rel => exact ⟨3, by omega, rfl, Lib.hid (‹_ ∧ _ ∧ HeldK wc _›).2.2⟩
            case measure => simp [intOf]
          · have fwr0 := Keep.some HK.out f0
            have hsm : Hid (∀ j, j < m → wr.cell? ⟨S, 0 + j, none⟩ = some (.int .i64 (ss.getD j 0))) := Lib.hid (fun j hj => Keep.some HK.out (hcells.out j hj))
            obtain ⟨e0, q1, q2, q3, q4⟩ := info_parts infoInt
            obtain ⟨ao, an, ac, hu2⟩ : ∃ ao an ac, u2 = Value.slice ao an ac := by
              rcases HL.out with ⟨h, _⟩ | ⟨b', off', n', cap', h, _⟩
              · exact ⟨_, _, _, h⟩
              · exact ⟨_, _, _, h⟩
            subst hu2
            have HLr := Lib.hid (ListAt.keep HL.out HK.out)
            have HTR := Lib.hid (HeldK.tab HK.out HTX.out)
            have HKW := Lib.hid (Keep.trans HK0.out HK.out)
            go_upto_region 13 with fail
            go_cut [91, 92] (fun s91 s92 wy => ThreeLists (Value.slice ao an ac) S m n0 ss wr s91 s92 wy)
            case first =>
              go_region_held3 (fun w' => w'.cell? ⟨w.heap.size, 0, none⟩ = some (.int .i64 n0) ∧ HeldK wr w') (exact heldPair fwr0 (by first | assumption | exact HeldK.drew (Keep.refl _) | exact HeldK.drew (‹_ ∧ HeldK wr _›).2 | exact HeldK.alloc (‹_ ∧ HeldK wr _›).2 _)) (first | (refine step_append_any rfl (.tmp 84) (.tmp 85) 36 rfl wr.heap.size 3 e0 (.int .i64 0) 8 Tryd.underlying36 q1 q2 q3 q4 rfl _ rfl (by first | exact heapNew1 _ _ | exact heapNew2 _ _ _ | exact heapNew3 _ _ _ | exact heapNew4 _ _ | exact heapNew5 _ _ _ | exact heapNew6 _ _ _) (by have h := (‹_ ∧ HeldK wr _›).2.size; first | omega | (simp at h ⊢; omega) | simp) ⟨S, 0, none⟩ m m (ss.map (Value.int .i64)) rfl (by rw [List.length_map, hlen.out]; omega) (newsAt (‹_ ∧ HeldK wr _›).2 hsm.out hlen.out) (oneInts ss) (by unfold maxLen; omega) (by omega) (‹_ ∧ HeldK wr _›).2.size ?_; intro g cap w1 hown hgrow; have hKK : HeldK wr w1 := Keep.byRow (‹_ ∧ HeldK wr _›).2 hgrow (by have h := (‹_ ∧ HeldK wr _›).2.size; intro k hk; simp at hk; first | omega | (simp at h; omega)); have hgG : Hid (wr.heap.size ≤ g) := Lib.hid (ownsAt hown); simp only [Nat.zero_add, List.nil_append] at hown) | (refine step_append_lies (w1.alloc (Obj.cells #[Value.int IntKind.i64 n0] 3)) rfl (.tmp 86) (.tmp 89) 36 rfl wr.heap.size 3 e0 (.int .i64 0) 1 8 Tryd.underlying36 q1 q2 q3 q4 rfl (by decide) (.slice (some ⟨g, 0, none⟩) _ cap) m (ss.map (Value.int .i64)) rfl (by first | exact hown.alloc _ | (rw [Nat.zero_add]; exact hown.alloc _)) ⟨w1.heap.size, 0, none⟩ 1 1 ([n0].map (Value.int .i64)) rfl rfl (newsOne (heapNew4 _ _)) (oneInts [n0]) (by omega) (by unfold maxLen; omega) (by omega) (‹_ ∧ HeldK wr _›).2.size _ rfl ?_; intro g2 cap2 w2 hown2 hgrow2 hat2 hlt2; have hKK2 : HeldK wr w2 := Keep.byRow (‹_ ∧ HeldK wr _›).2 hgrow2 (by have h := hgG.out; intro k hk; simp [Value.ownBlock] at hk; omega); rw [← List.map_append] at hown2; have HO2 := Lib.hid (listAtOwns hown2); clear hat2 hlt2 hown2) | (refine step_append_lies (w1) rfl (.tmp 86) (.tmp 89) 36 rfl wr.heap.size 3 e0 (.int .i64 0) 1 8 Tryd.underlying36 q1 q2 q3 q4 rfl (by decide) (.slice (some ⟨g, 0, none⟩) _ cap) m (ss.map (Value.int .i64)) rfl (by first | exact hown | (rw [Nat.zero_add]; exact hown)) ⟨wr.heap.size + 1, 0, none⟩ 1 1 ([n0].map (Value.int .i64)) rfl rfl (newsOne (newsO2 hgrow)) (oneInts [n0]) (by omega) (by unfold maxLen; omega) (by omega) (‹_ ∧ HeldK wr _›).2.size _ rfl ?_; intro g2 cap2 w2 hown2 hgrow2 hat2 hlt2; have hKK2 : HeldK wr w2 := Keep.byRow (‹_ ∧ HeldK wr _›).2 hgrow2 (by have h := hgG.out; intro k hk; simp [Value.ownBlock] at hk; omega); rw [← List.map_append] at hown2; have HO2 := Lib.hid (listAtOwns hown2); clear hat2 hlt2 hown2) | (refine step_append_lies (w1) rfl (.tmp 86) (.tmp 89) 36 rfl wr.heap.size 3 e0 (.int .i64 0) 1 8 Tryd.underlying36 q1 q2 q3 q4 rfl (by decide) (.slice (some ⟨g, 0, none⟩) _ cap) m (ss.map (Value.int .i64)) rfl (by first | exact hown | (rw [Nat.zero_add]; exact hown)) ⟨wr.heap.size, 0, none⟩ 1 1 ([n0].map (Value.int .i64)) rfl rfl (newsOne (newsO3 hgrow)) (oneInts [n0]) (by omega) (by unfold maxLen; omega) (by omega) (‹_ ∧ HeldK wr _›).2.size _ rfl ?_; intro g2 cap2 w2 hown2 hgrow2 hat2 hlt2; have hKK2 : HeldK wr w2 := Keep.byRow (‹_ ∧ HeldK wr _›).2 hgrow2 (by have h := hgG.out; intro k hk; simp [Value.ownBlock] at hk; omega); rw [← List.map_append] at hown2; have HO2 := Lib.hid (listAtOwns hown2); clear hat2 hlt2 hown2))
              all_goals (go_wp2_with fail; go_meet; exact ⟨rfl, Lib.hid (by assumption), _, _, rfl, by assumption⟩)
            case rest =>
              obtain ⟨rfl, HKY, g3, c3, rfl, HL3⟩ := hcut
              have HTY := Lib.hid (HeldK.tab HKY.out HTR.out)
              have HLc := Lib.hid (ListAt.keep HLr.out HKY.out)
              have HSc := Lib.hid (ListAt.keep (listAtSmall hlen.out hm hsm.out) HKY.out)
              have HKZ := Lib.hid (Keep.trans HKW.out HKY.out)
              clear hsm fwr0 f0 f1 f2 f3 hcells HK0 HTX HK HL HLr HTR HKW HKY
              have j0 : ∀ w, (Instr.index 38 (.agg #[.slice ao an ac, .slice (some ⟨S, 0, none⟩) m m, .slice (some ⟨g3, 0, none⟩) (m + 1) c3]) (.int .i64 0)).run Tryd.prog w = .ok (.slice ao an ac) w := fun _ => by kernel_rfl
              have j1 : ∀ w, (Instr.index 38 (.agg #[.slice ao an ac, .slice (some ⟨S, 0, none⟩) m m, .slice (some ⟨g3, 0, none⟩) (m + 1) c3]) (.int .i64 1)).run Tryd.prog w = .ok (.slice (some ⟨S, 0, none⟩) m m) w := fun _ => by kernel_rfl
              have j2 : ∀ w, (Instr.index 38 (.agg #[.slice ao an ac, .slice (some ⟨S, 0, none⟩) m m, .slice (some ⟨g3, 0, none⟩) (m + 1) c3]) (.int .i64 2)).run Tryd.prog w = .ok (.slice (some ⟨g3, 0, none⟩) (m + 1) c3) w := fun _ => by kernel_rfl
              go_wp2_with fail
              go_loopw [92] (fun i wq => ∃ k : Nat, k ≤ 3 ∧ i = .int .i64 k ∧ Hid (HeldK wc wq)) (fun i _ => 3 - (intOf i).toNat)
              case atStart => exact ⟨0, by omega, rfl, Lib.hid (Keep.refl _)⟩
              case round =>
                obtain ⟨k, hk, rfl, HK3⟩ := hrel
                obtain rfl | rfl | rfl | rfl : k = 0 ∨ k = 1 ∨ k = 2 ∨ k = 3 := by omega
                · -- round 0 of the lists
                  obtain ⟨⟨p, b⟩, hp⟩ : ∃ r, lcmS zs = r := ⟨_, rfl⟩
                  have HP := Lib.hid hp
                  clear hp
                  go_wp2_with fail
                  go_at_call 29
                  refine (numLcm_at _ zs _ (HeldK.tab HK3.out HTY.out) (ListAt.keep HLc.out HK3.out) (p, b) HP.out).mono ?_
                  rintro e w1 ⟨rfl, hg1⟩
                  have HK4 := Lib.hid (HeldK.next HK3.out hg1)
                  clear hg1
                  go_wp2_with fail
                  go_at_call 30
                  refine (refLcm_at _ zs _ (ListAt.keep HLc.out HK4.out) (p, b) HP.out).mono ?_
                  rintro e w2 ⟨rfl, hg2⟩
                  have HK5 := Lib.hid (HeldK.next HK4.out hg2)
                  clear hg2
                  go_wp2
                  go_roundw
                  case rel => exact ⟨_, _, _, _, _, _, _, _, _, _, _, _, _, _, _, _, _, _, _, _, _, _, _, _, _, _, _, _, ⟨1, by omega, rfl, HK5⟩, rfl⟩
                  case measure => simp [intOf]
                · -- round 1 of the lists
                  obtain ⟨⟨p, b⟩, hp⟩ : ∃ r, lcmS ss = r := ⟨_, rfl⟩
                  have HP := Lib.hid hp
                  clear hp
                  go_wp2_with fail
                  go_at_call 29
                  refine (numLcm_at _ ss _ (HeldK.tab HK3.out HTY.out) (ListAt.keep HSc.out HK3.out) (p, b) HP.out).mono ?_
                  rintro e w1 ⟨rfl, hg1⟩
                  have HK4 := Lib.hid (HeldK.next HK3.out hg1)
                  clear hg1
                  go_wp2_with fail
                  go_at_call 30
                  refine (refLcm_at _ ss _ (ListAt.keep HSc.out HK4.out) (p, b) HP.out).mono ?_
                  rintro e w2 ⟨rfl, hg2⟩
                  have HK5 := Lib.hid (HeldK.next HK4.out hg2)
                  clear hg2
                  go_wp2
                  go_roundw
                  case rel => exact ⟨_, _, _, _, _, _, _, _, _, _, _, _, _, _, _, _, _, _, _, _, _, _, _, _, _, _, _, _, ⟨2, by omega, rfl, HK5⟩, rfl⟩
                  case measure => simp [intOf]
                · -- round 2 of the lists
                  obtain ⟨⟨p, b⟩, hp⟩ : ∃ r, lcmS (ss ++ [n0]) = r := ⟨_, rfl⟩
                  have HP := Lib.hid hp
                  clear hp
                  go_wp2_with fail
                  go_at_call 29
                  refine (numLcm_at _ (ss ++ [n0]) _ (HeldK.tab HK3.out HTY.out) (ListAt.keep HL3.out HK3.out) (p, b) HP.out).mono ?_
                  rintro e w1 ⟨rfl, hg1⟩
                  have HK4 := Lib.hid (HeldK.next HK3.out hg1)
                  clear hg1
                  go_wp2_with fail
                  go_at_call 30
                  refine (refLcm_at _ (ss ++ [n0]) _ (ListAt.keep HL3.out HK4.out) (p, b) HP.out).mono ?_
                  rintro e w2 ⟨rfl, hg2⟩
                  have HK5 := Lib.hid (HeldK.next HK4.out hg2)
                  clear hg2
                  go_wp2
                  go_roundw
                  case rel => exact ⟨_, _, _, _, _, _, _, _, _, _, _, _, _, _, _, _, _, _, _, _, _, _, _, _, _, _, _, _, ⟨3, by omega, rfl, HK5⟩, rfl⟩
                  case measure => simp [intOf]
                · go_wp2_with (go_at_call 18; ((with_reducible refine (works_true _ (HeldK.tab HK3.out HTY.out)).mono ?_); rintro e w1 ⟨rfl, hg1⟩))
                  go_ret
                  exact ⟨rfl, Keep.trans (Keep.trans HKZ.out HK3.out) (keepOf hg1)⟩

end Go.Proofs.YtbdjdmgohjjnaaaDoor
