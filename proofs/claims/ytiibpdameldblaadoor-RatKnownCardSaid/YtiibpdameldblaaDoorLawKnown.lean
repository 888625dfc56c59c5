/- RatKnown's walk: fractions that are not valid, and closed results. -/
import Derived.Test.YtiibpdameldblaaDoorWorks
import Derived.Test.YtiibpdameldblaaDoorRegion
import Derived.Deep.DeepCutAuto
import Derived.Deep.CutRange
namespace Go.Proofs.YtiibpdameldblaaDoor
open Go Go.RowKit
attribute [local go_sem ↓] Go.wp_at_zero Go.wp_at_succ

theorem okB_no1 {a b : Int} (c d : Int) (h : okR a b = false) : okB a b c d = false := by unfold okB; rw [h]; rfl
theorem okB_no2 (a b : Int) {c d : Int} (h : okR c d = false) : okB a b c d = false := by unfold okB; rw [h, Bool.and_false]
theorem known_no {x1 x2 : Int} (h : okR x1 x2 = false) : addF x1 x2 1 1 = (0, 0, 120) ∧ divF 1 1 x1 x2 = (0, 0, 120) ∧ cmpF x1 x2 x1 x2 = (0, 120) ∧ floorF x1 x2 = (0, 120) ∧ maxF 1 1 x1 x2 = (0, 0, 120) ∧ checkS x1 x2 = 120 := by
  refine ⟨?_, ?_, cmpF_no (okB_no1 _ _ h), ?_, ?_, checkS_no h⟩
  · unfold addF overS; rw [okB_no1 _ _ h, if_neg (by simp)]
  · unfold divF overS; rw [okB_no2 _ _ h, if_neg (by simp)]
  · unfold floorF; rw [h, if_neg (by simp)]
  · unfold maxF; rw [okB_no2 _ _ h, if_neg (by simp)]

set_option maxRecDepth 100000 in
set_option maxHeartbeats 16000000 in
theorem known_true (w : World) (hT : Tab w) : Calls Tryd.prog 9 #[] w fun e w' => e = .returned (.bool true) ∧ Grown w w' := by
  have HT := Lib.hid hT
  clear hT
  have hi : ∀ k : Int, 0 ≤ k → k < 7 → ∃ x1 x2 : Int, okR x1 x2 = false ∧ ∀ w, (Instr.index 48 (.agg #[.int .i64 0, .int .i64 0, .int .i64 1, .int .i64 0, .int .i64 1, .int .i64 (-1), .int .i64 0, .int .i64 2, .int .i64 1073741825, .int .i64 1, .int .i64 1, .int .i64 1073741825, .int .i64 (-9223372036854775808), .int .i64 1]) (.int .i64 k)).run Tryd.prog w = .ok (.agg #[.int .i64 x1, .int .i64 x2]) w := by
    intro k h0 h4
    obtain rfl | rfl | rfl | rfl | rfl | rfl | rfl : k = 0 ∨ k = 1 ∨ k = 2 ∨ k = 3 ∨ k = 4 ∨ k = 5 ∨ k = 6 := by omega
    · exact ⟨0, 0, by decide, fun _ => by kernel_rfl⟩
    · exact ⟨1, 0, by decide, fun _ => by kernel_rfl⟩
    · exact ⟨1, (-1), by decide, fun _ => by kernel_rfl⟩
    · exact ⟨0, 2, by decide, fun _ => by kernel_rfl⟩
    · exact ⟨1073741825, 1, by decide, fun _ => by kernel_rfl⟩
    · exact ⟨1, 1073741825, by decide, fun _ => by kernel_rfl⟩
    · exact ⟨(-9223372036854775808), 1, by decide, fun _ => by kernel_rfl⟩
  have HI := Lib.hid hi
  clear hi
  go_enter Tryd.func9, Tryd.ntmps9
  go_wp2_with fail
  go_loopw [41] (fun i wr => ∃ k : Int, 0 ≤ k ∧ k ≤ 7 ∧ i = .int .i64 k ∧ Hid (Grown w wr)) (fun i _ => 7 - (intOf i).toNat)
  case atStart => exact ⟨0, by omega, by omega, rfl, Lib.hid (Grown.refl _)⟩
  case round =>
    obtain ⟨k, hk0, hk7, rfl, G0⟩ := hrel
    by_cases hk : k < 7
    · -- a round
      obtain ⟨x1, x2, hno, hx⟩ := HI.out k hk0 hk
      have HN := Lib.hid (known_no hno)
      clear hno
      go_upto_region 4 with fail
      have c0 : (wr.alloc (.cells #[.int .i64 x1, .int .i64 x2] 23)).cell? ⟨wr.heap.size, 0, none⟩ = some (.int .i64 x1) := by simp [go_sem]
      have c1 : (wr.alloc (.cells #[.int .i64 x1, .int .i64 x2] 23)).cell? ⟨wr.heap.size, 1, none⟩ = some (.int .i64 x2) := by simp [go_sem]
      have GW : Hid (Grown w (wr.alloc (.cells #[.int .i64 x1, .int .i64 x2] 23))) := Lib.hid (Grown.alloc G0.out _ _)
      generalize wr.alloc (.cells #[.int .i64 x1, .int .i64 x2] 23) = W0 at *
      generalize wr.heap.size = B at *
      go_upto_region 4 with fail
      go_cut [4] (fun v wx => v = .int .i64 120 ∧ Grown W0 wx)
      case first =>
        refine region_inv (J := fun bb aa ww => ∃ u3 u4 u44 u45 u46 u47 u48 u49 : Value, aa = ⟨#[u0, undef, .pointer (some ⟨B, 0, none⟩), u3, u4, u5, u6, u7, u8, u9, u10, u11, u12, undef, undef, undef, undef, undef, undef, undef, undef, undef, undef, undef, undef, undef, undef, undef, undef, undef, undef, undef, undef, .agg #[.int .i64 0, .int .i64 0], .agg #[.int .i64 1, .int .i64 0], .agg #[.int .i64 1, .int .i64 (-1)], .agg #[.int .i64 0, .int .i64 2], .agg #[.int .i64 1073741825, .int .i64 1], .agg #[.int .i64 1, .int .i64 1073741825], .agg #[.int .i64 (-9223372036854775808), .int .i64 1], .agg #[.int .i64 0, .int .i64 0, .int .i64 1, .int .i64 0, .int .i64 1, .int .i64 (-1), .int .i64 0, .int .i64 2, .int .i64 1073741825, .int .i64 1, .int .i64 1, .int .i64 1073741825, .int .i64 (-9223372036854775808), .int .i64 1], .int .i64 k, .bool true, .agg #[.int .i64 x1, .int .i64 x2], u44, u45, u46, u47, u48, u49, u50, u51, u52, u53, u54, u55, u56, u57, u58, u59, u60, u61, u62, u63, u64, u65, u66, u67, u68, u69, u70, u71, u72, u73, u74, u75, u76, u77, u78, u79, u80, u81, u82, u83, u84, u85, u86, u87, u88, u89, u90, u91, u92, u93, u94, u95, u96, undef, undef, undef, undef, undef, undef, undef, undef, undef, undef, undef, undef, undef, undef, undef, undef, undef, undef, undef, undef, undef, undef, undef, undef, undef, undef, undef, undef, undef, undef, undef, undef, undef, undef, undef, undef, undef, undef, undef, undef, undef, undef, undef, undef, undef, undef, undef, undef, undef, undef, undef, undef, undef, undef, undef, undef, undef, undef, undef, undef, undef, undef, undef, undef, undef, undef, undef, undef, undef, undef, undef, undef, undef, undef, undef, undef, undef, undef, undef, undef, undef, undef, undef, undef, undef, undef, undef, undef, undef, undef, undef, undef, undef, undef, undef, undef, undef, undef, undef, undef, undef, undef, undef, undef, undef, undef, undef, undef, undef], []⟩ ∧ Grown W0 ww ∧ (bb 0 → u45 = .agg #[.int .i64 x1, .int .i64 x2]) ∧ (bb 1 → u46 = .agg #[.int .i64 1, .int .i64 1]) ∧ (bb 2 → u47 = .tuple #[.agg #[.int .i64 0, .int .i64 0], .int .i64 120]) ∧ (bb 3 → u44 = .tuple #[.agg #[.int .i64 0, .int .i64 0], .int .i64 120]) ∧ (bb 4 → u48 = .agg #[.int .i64 0, .int .i64 0]) ∧ (bb 5 → u49 = .int .i64 120) ∧ (bb 6 → VarAt W0 ww u3 (bb 7) (.int .i64 0) (.int .i64 0)) ∧ (bb 7 → bb 6) ∧ (bb 8 → u4 = .int .i64 120)) (by kernel_rfl) (by kernel_rfl) ?done ?start ?steps
        case done =>
          rintro bb aa ww hb ⟨u3, u4, u44, u45, u46, u47, u48, u49, rfl, G, f0, f1, f2, f3, f4, f5, f6, f7, f8⟩
          have g0 := f0 (hb 0 (by decide))
          have g1 := f1 (hb 1 (by decide))
          have g2 := f2 (hb 2 (by decide))
          have g3 := f3 (hb 3 (by decide))
          have g4 := f4 (hb 4 (by decide))
          have g5 := f5 (hb 5 (by decide))
          have g6 := f6 (hb 6 (by decide))
          have g8 := f8 (hb 8 (by decide))
          obtain ⟨X6, x6, y6, rfl, hX6, ⟨hc6, hd6⟩, -, hs6⟩ := g6
          obtain ⟨rfl, rfl⟩ := hs6 (hb 7 (by decide))
          go_wp2_with fail
          go_meet
          case rel => exact ⟨rfl, G⟩
        case start => exact ⟨_, _, _, _, _, _, _, _, rfl, Grown.drew (Grown.refl _), fun h => h.elim, fun h => h.elim, fun h => h.elim, fun h => h.elim, fun h => h.elim, fun h => h.elim, fun h => h.elim, fun h => h.elim, fun h => h.elim⟩
        case steps =>
          refine StepsFrom.cons (k := 0) ?_ (StepsFrom.cons (k := 1) ?_ (StepsFrom.cons (k := 2) ?_ (StepsFrom.cons (k := 3) ?_ (StepsFrom.cons (k := 4) ?_ (StepsFrom.cons (k := 5) ?_ (StepsFrom.cons (k := 6) ?_ (StepsFrom.cons (k := 7) ?_ (StepsFrom.cons (k := 8) ?_ (StepsFrom.nil)))))))))
          · -- 0: load
            rintro bb aa ww hn hd ⟨u3, u4, u44, u45, u46, u47, u48, u49, rfl, G, f0, f1, f2, f3, f4, f5, f6, f7, f8⟩ K hK
            have k0 := grownSome G c0
            have k1 := grownSome G c1
            have HK := Lib.hid hK
            clear hK
            go_simp
            exact HK.out _ _ ⟨_, _, _, _, _, _, _, _, rfl, G, fun _ => rfl, up (by decide) f1, up (by decide) f2, up (by decide) f3, up (by decide) f4, up (by decide) f5, fun h => (f6 (down (by decide) h)).step (Grown.refl _) (down (by decide)), fun h => Or.inr (f7 (down (by decide) h)), up (by decide) f8⟩
          · -- 1: call
            rintro bb aa ww hn hd ⟨u3, u4, u44, u45, u46, u47, u48, u49, rfl, G, f0, f1, f2, f3, f4, f5, f6, f7, f8⟩ K hK
            have HK := Lib.hid hK
            clear hK
            go_wp2_with ((go_at_call 35); ((with_reducible refine (of_frac 1 1 _).mono ?_); rintro _ w1 ⟨rfl, hg⟩))
            exact HK.out _ _ ⟨_, _, _, _, _, _, _, _, rfl, (grownTrans G hg), up (by decide) f0, fun _ => rfl, up (by decide) f2, up (by decide) f3, up (by decide) f4, up (by decide) f5, fun h => (f6 (down (by decide) h)).step hg (down (by decide)), fun h => Or.inr (f7 (down (by decide) h)), up (by decide) f8⟩
          · -- 2: call
            rintro bb aa ww hn hd ⟨u3, u4, u44, u45, u46, u47, u48, u49, rfl, G, f0, f1, f2, f3, f4, f5, f6, f7, f8⟩ K hK
            have b0 : bb 0 := hd ⟨0, .data⟩ (by simp) (by rfl)
            obtain rfl := f0 b0
            have b1 : bb 1 := hd ⟨1, .data⟩ (by simp) (by rfl)
            obtain rfl := f1 b1
            have HK := Lib.hid hK
            clear hK
            go_wp2_with ((go_at_call 16); ((with_reducible refine (add_is x1 x2 1 1 (0, 0, 120) HN.out.1 _ (HT.out.grown (grownTrans GW.out G))).mono ?_); rintro _ w1 ⟨rfl, hg⟩))
            exact HK.out _ _ ⟨_, _, _, _, _, _, _, _, rfl, (grownTrans G hg), fun _ => rfl, fun _ => rfl, fun _ => rfl, up (by decide) f3, up (by decide) f4, up (by decide) f5, fun h => (f6 (down (by decide) h)).step hg (down (by decide)), fun h => Or.inr (f7 (down (by decide) h)), up (by decide) f8⟩
          · -- 3: addr
            rintro bb aa ww hn hd ⟨u3, u4, u44, u45, u46, u47, u48, u49, rfl, G, f0, f1, f2, f3, f4, f5, f6, f7, f8⟩ K hK
            have b2 : bb 2 := hd ⟨2, .data⟩ (by simp) (by rfl)
            obtain rfl := f2 b2
            have HK := Lib.hid hK
            clear hK
            go_simp
            exact HK.out _ _ ⟨_, _, _, _, _, _, _, _, rfl, G, up (by decide) f0, up (by decide) f1, fun _ => rfl, fun _ => rfl, up (by decide) f4, up (by decide) f5, fun h => (f6 (down (by decide) h)).step (Grown.refl _) (down (by decide)), fun h => Or.inr (f7 (down (by decide) h)), up (by decide) f8⟩
          · -- 4: addr
            rintro bb aa ww hn hd ⟨u3, u4, u44, u45, u46, u47, u48, u49, rfl, G, f0, f1, f2, f3, f4, f5, f6, f7, f8⟩ K hK
            have b3 : bb 3 := hd ⟨3, .data⟩ (by simp) (by rfl)
            obtain rfl := f3 b3
            have HK := Lib.hid hK
            clear hK
            go_simp
            exact HK.out _ _ ⟨_, _, _, _, _, _, _, _, rfl, G, up (by decide) f0, up (by decide) f1, up (by decide) f2, fun _ => rfl, fun _ => rfl, up (by decide) f5, fun h => (f6 (down (by decide) h)).step (Grown.refl _) (down (by decide)), fun h => Or.inr (f7 (down (by decide) h)), up (by decide) f8⟩
          · -- 5: addr
            rintro bb aa ww hn hd ⟨u3, u4, u44, u45, u46, u47, u48, u49, rfl, G, f0, f1, f2, f3, f4, f5, f6, f7, f8⟩ K hK
            have b3 : bb 3 := hd ⟨3, .data⟩ (by simp) (by rfl)
            obtain rfl := f3 b3
            have HK := Lib.hid hK
            clear hK
            go_simp
            exact HK.out _ _ ⟨_, _, _, _, _, _, _, _, rfl, G, up (by decide) f0, up (by decide) f1, up (by decide) f2, fun _ => rfl, up (by decide) f4, fun _ => rfl, fun h => (f6 (down (by decide) h)).step (Grown.refl _) (down (by decide)), fun h => Or.inr (f7 (down (by decide) h)), up (by decide) f8⟩
          · -- 6: alloc
            rintro bb aa ww hn hd ⟨u3, u4, u44, u45, u46, u47, u48, u49, rfl, G, f0, f1, f2, f3, f4, f5, f6, f7, f8⟩ K hK
            have HK := Lib.hid hK
            clear hK
            go_simp
            exact HK.out _ _ ⟨_, _, _, _, _, _, _, _, rfl, (Grown.alloc G _ _), up (by decide) f0, up (by decide) f1, up (by decide) f2, up (by decide) f3, up (by decide) f4, up (by decide) f5, fun _ => VarAt.new G (fun h => hn (f7 (h.resolve_left (by decide)))), fun _ => Or.inl rfl, up (by decide) f8⟩
          · -- 7: store
            rintro bb aa ww hn hd ⟨u3, u4, u44, u45, u46, u47, u48, u49, rfl, G, f0, f1, f2, f3, f4, f5, f6, f7, f8⟩ K hK
            have b6 : bb 6 := hd ⟨6, .data⟩ (by simp) (by rfl)
            have b4 : bb 4 := hd ⟨4, .data⟩ (by simp) (by rfl)
            obtain rfl := f4 b4
            obtain ⟨X, c0, c1, rfl, hX, ⟨hc0, hc1⟩, ⟨hf0, hf1⟩, -⟩ := f6 b6
            have HK := Lib.hid hK
            clear hK
            go_simp
            exact HK.out _ _ ⟨_, _, _, _, _, _, _, _, rfl, ((G.setCell hX _).setCell hX _), up (by decide) f0, up (by decide) f1, up (by decide) f2, up (by decide) f3, fun _ => rfl, up (by decide) f5, fun _ => VarAt.here hX hc0 hc1 hf0 hf1, fun _ => Or.inr b6, up (by decide) f8⟩
          · -- 8: addr
            rintro bb aa ww hn hd ⟨u3, u4, u44, u45, u46, u47, u48, u49, rfl, G, f0, f1, f2, f3, f4, f5, f6, f7, f8⟩ K hK
            have b5 : bb 5 := hd ⟨5, .data⟩ (by simp) (by rfl)
            obtain rfl := f5 b5
            have HK := Lib.hid hK
            clear hK
            go_simp
            exact HK.out _ _ ⟨_, _, _, _, _, _, _, _, rfl, G, up (by decide) f0, up (by decide) f1, up (by decide) f2, up (by decide) f3, up (by decide) f4, fun _ => rfl, fun h => (f6 (down (by decide) h)).step (Grown.refl _) (down (by decide)), fun h => Or.inr (f7 (down (by decide) h)), fun _ => rfl⟩
      case rest =>
      skip
      obtain ⟨rfl, GX⟩ := hcut
      have d0 := grownSome GX c0
      have d1 := grownSome GX c1
      have GY : Hid (Grown w wc) := Lib.hid (grownTrans GW.out GX)
      clear c0 c1 GX GW
      obtain ⟨W0, rfl⟩ : ∃ W0, W0 = wc := ⟨_, rfl⟩
      have c0 := d0
      have c1 := d1
      have GW := GY
      clear d0 d1 GY
      go_upto_region 5 with fail
      go_cut [6] (fun v wx => v = .int .i64 120 ∧ Grown W0 wx)
      case first =>
        refine region_inv (J := fun bb aa ww => ∃ u5 u6 u50 u51 u52 u53 u54 u55 : Value, aa = ⟨#[u0, undef, .pointer (some ⟨B, 0, none⟩), u3, .int .i64 120, u5, u6, u7, u8, u9, u10, u11, u12, undef, undef, undef, undef, undef, undef, undef, undef, undef, undef, undef, undef, undef, undef, undef, undef, undef, undef, undef, undef, .agg #[.int .i64 0, .int .i64 0], .agg #[.int .i64 1, .int .i64 0], .agg #[.int .i64 1, .int .i64 (-1)], .agg #[.int .i64 0, .int .i64 2], .agg #[.int .i64 1073741825, .int .i64 1], .agg #[.int .i64 1, .int .i64 1073741825], .agg #[.int .i64 (-9223372036854775808), .int .i64 1], .agg #[.int .i64 0, .int .i64 0, .int .i64 1, .int .i64 0, .int .i64 1, .int .i64 (-1), .int .i64 0, .int .i64 2, .int .i64 1073741825, .int .i64 1, .int .i64 1, .int .i64 1073741825, .int .i64 (-9223372036854775808), .int .i64 1], .int .i64 k, u42, u43, u44, u45, u46, u47, u48, u49, u50, u51, u52, u53, u54, u55, u56, u57, u58, u59, u60, u61, u62, u63, u64, u65, u66, u67, u68, u69, u70, u71, u72, u73, u74, u75, u76, u77, u78, u79, u80, u81, u82, u83, u84, u85, u86, u87, u88, u89, u90, u91, u92, u93, u94, u95, u96, undef, undef, undef, undef, undef, undef, undef, undef, undef, undef, undef, undef, undef, undef, undef, undef, undef, undef, undef, undef, undef, undef, undef, undef, undef, undef, undef, undef, undef, undef, undef, undef, undef, undef, undef, undef, undef, undef, undef, undef, undef, undef, undef, undef, undef, undef, undef, undef, undef, undef, undef, undef, undef, undef, undef, undef, undef, undef, undef, undef, undef, undef, undef, undef, undef, undef, undef, undef, undef, undef, undef, undef, undef, undef, undef, undef, undef, undef, undef, undef, undef, undef, undef, undef, undef, undef, undef, undef, undef, undef, undef, undef, undef, undef, undef, undef, undef, undef, undef, undef, undef, undef, undef, undef, undef, undef, undef, undef, undef], []⟩ ∧ Grown W0 ww ∧ (bb 0 → u51 = .agg #[.int .i64 1, .int .i64 1]) ∧ (bb 1 → u52 = .agg #[.int .i64 x1, .int .i64 x2]) ∧ (bb 2 → u53 = .tuple #[.agg #[.int .i64 0, .int .i64 0], .int .i64 120]) ∧ (bb 3 → u50 = .tuple #[.agg #[.int .i64 0, .int .i64 0], .int .i64 120]) ∧ (bb 4 → u54 = .agg #[.int .i64 0, .int .i64 0]) ∧ (bb 5 → u55 = .int .i64 120) ∧ (bb 6 → VarAt W0 ww u5 (bb 7) (.int .i64 0) (.int .i64 0)) ∧ (bb 7 → bb 6) ∧ (bb 8 → u6 = .int .i64 120)) (by kernel_rfl) (by kernel_rfl) ?done ?start ?steps
        case done =>
          rintro bb aa ww hb ⟨u5, u6, u50, u51, u52, u53, u54, u55, rfl, G, f0, f1, f2, f3, f4, f5, f6, f7, f8⟩
          have g0 := f0 (hb 0 (by decide))
          have g1 := f1 (hb 1 (by decide))
          have g2 := f2 (hb 2 (by decide))
          have g3 := f3 (hb 3 (by decide))
          have g4 := f4 (hb 4 (by decide))
          have g5 := f5 (hb 5 (by decide))
          have g6 := f6 (hb 6 (by decide))
          have g8 := f8 (hb 8 (by decide))
          obtain ⟨X6, x6, y6, rfl, hX6, ⟨hc6, hd6⟩, -, hs6⟩ := g6
          obtain ⟨rfl, rfl⟩ := hs6 (hb 7 (by decide))
          go_wp2_with fail
          go_meet
          case rel => exact ⟨rfl, G⟩
        case start => exact ⟨_, _, _, _, _, _, _, _, rfl, Grown.drew (Grown.refl _), fun h => h.elim, fun h => h.elim, fun h => h.elim, fun h => h.elim, fun h => h.elim, fun h => h.elim, fun h => h.elim, fun h => h.elim, fun h => h.elim⟩
        case steps =>
          refine StepsFrom.cons (k := 0) ?_ (StepsFrom.cons (k := 1) ?_ (StepsFrom.cons (k := 2) ?_ (StepsFrom.cons (k := 3) ?_ (StepsFrom.cons (k := 4) ?_ (StepsFrom.cons (k := 5) ?_ (StepsFrom.cons (k := 6) ?_ (StepsFrom.cons (k := 7) ?_ (StepsFrom.cons (k := 8) ?_ (StepsFrom.nil)))))))))
          · -- 0: call
            rintro bb aa ww hn hd ⟨u5, u6, u50, u51, u52, u53, u54, u55, rfl, G, f0, f1, f2, f3, f4, f5, f6, f7, f8⟩ K hK
            have HK := Lib.hid hK
            clear hK
            go_wp2_with ((go_at_call 35); ((with_reducible refine (of_frac 1 1 _).mono ?_); rintro _ w1 ⟨rfl, hg⟩))
            exact HK.out _ _ ⟨_, _, _, _, _, _, _, _, rfl, (grownTrans G hg), fun _ => rfl, up (by decide) f1, up (by decide) f2, up (by decide) f3, up (by decide) f4, up (by decide) f5, fun h => (f6 (down (by decide) h)).step hg (down (by decide)), fun h => Or.inr (f7 (down (by decide) h)), up (by decide) f8⟩
          · -- 1: load
            rintro bb aa ww hn hd ⟨u5, u6, u50, u51, u52, u53, u54, u55, rfl, G, f0, f1, f2, f3, f4, f5, f6, f7, f8⟩ K hK
            have k0 := grownSome G c0
            have k1 := grownSome G c1
            have HK := Lib.hid hK
            clear hK
            go_simp
            exact HK.out _ _ ⟨_, _, _, _, _, _, _, _, rfl, G, up (by decide) f0, fun _ => rfl, up (by decide) f2, up (by decide) f3, up (by decide) f4, up (by decide) f5, fun h => (f6 (down (by decide) h)).step (Grown.refl _) (down (by decide)), fun h => Or.inr (f7 (down (by decide) h)), up (by decide) f8⟩
          · -- 2: call
            rintro bb aa ww hn hd ⟨u5, u6, u50, u51, u52, u53, u54, u55, rfl, G, f0, f1, f2, f3, f4, f5, f6, f7, f8⟩ K hK
            have b0 : bb 0 := hd ⟨0, .data⟩ (by simp) (by rfl)
            obtain rfl := f0 b0
            have b1 : bb 1 := hd ⟨1, .data⟩ (by simp) (by rfl)
            obtain rfl := f1 b1
            have HK := Lib.hid hK
            clear hK
            go_wp2_with ((go_at_call 22); ((with_reducible refine (div_is 1 1 x1 x2 (0, 0, 120) HN.out.2.1 _ (HT.out.grown (grownTrans GW.out G))).mono ?_); rintro _ w1 ⟨rfl, hg⟩))
            exact HK.out _ _ ⟨_, _, _, _, _, _, _, _, rfl, (grownTrans G hg), fun _ => rfl, fun _ => rfl, fun _ => rfl, up (by decide) f3, up (by decide) f4, up (by decide) f5, fun h => (f6 (down (by decide) h)).step hg (down (by decide)), fun h => Or.inr (f7 (down (by decide) h)), up (by decide) f8⟩
          · -- 3: addr
            rintro bb aa ww hn hd ⟨u5, u6, u50, u51, u52, u53, u54, u55, rfl, G, f0, f1, f2, f3, f4, f5, f6, f7, f8⟩ K hK
            have b2 : bb 2 := hd ⟨2, .data⟩ (by simp) (by rfl)
            obtain rfl := f2 b2
            have HK := Lib.hid hK
            clear hK
            go_simp
            exact HK.out _ _ ⟨_, _, _, _, _, _, _, _, rfl, G, up (by decide) f0, up (by decide) f1, fun _ => rfl, fun _ => rfl, up (by decide) f4, up (by decide) f5, fun h => (f6 (down (by decide) h)).step (Grown.refl _) (down (by decide)), fun h => Or.inr (f7 (down (by decide) h)), up (by decide) f8⟩
          · -- 4: addr
            rintro bb aa ww hn hd ⟨u5, u6, u50, u51, u52, u53, u54, u55, rfl, G, f0, f1, f2, f3, f4, f5, f6, f7, f8⟩ K hK
            have b3 : bb 3 := hd ⟨3, .data⟩ (by simp) (by rfl)
            obtain rfl := f3 b3
            have HK := Lib.hid hK
            clear hK
            go_simp
            exact HK.out _ _ ⟨_, _, _, _, _, _, _, _, rfl, G, up (by decide) f0, up (by decide) f1, up (by decide) f2, fun _ => rfl, fun _ => rfl, up (by decide) f5, fun h => (f6 (down (by decide) h)).step (Grown.refl _) (down (by decide)), fun h => Or.inr (f7 (down (by decide) h)), up (by decide) f8⟩
          · -- 5: addr
            rintro bb aa ww hn hd ⟨u5, u6, u50, u51, u52, u53, u54, u55, rfl, G, f0, f1, f2, f3, f4, f5, f6, f7, f8⟩ K hK
            have b3 : bb 3 := hd ⟨3, .data⟩ (by simp) (by rfl)
            obtain rfl := f3 b3
            have HK := Lib.hid hK
            clear hK
            go_simp
            exact HK.out _ _ ⟨_, _, _, _, _, _, _, _, rfl, G, up (by decide) f0, up (by decide) f1, up (by decide) f2, fun _ => rfl, up (by decide) f4, fun _ => rfl, fun h => (f6 (down (by decide) h)).step (Grown.refl _) (down (by decide)), fun h => Or.inr (f7 (down (by decide) h)), up (by decide) f8⟩
          · -- 6: alloc
            rintro bb aa ww hn hd ⟨u5, u6, u50, u51, u52, u53, u54, u55, rfl, G, f0, f1, f2, f3, f4, f5, f6, f7, f8⟩ K hK
            have HK := Lib.hid hK
            clear hK
            go_simp
            exact HK.out _ _ ⟨_, _, _, _, _, _, _, _, rfl, (Grown.alloc G _ _), up (by decide) f0, up (by decide) f1, up (by decide) f2, up (by decide) f3, up (by decide) f4, up (by decide) f5, fun _ => VarAt.new G (fun h => hn (f7 (h.resolve_left (by decide)))), fun _ => Or.inl rfl, up (by decide) f8⟩
          · -- 7: store
            rintro bb aa ww hn hd ⟨u5, u6, u50, u51, u52, u53, u54, u55, rfl, G, f0, f1, f2, f3, f4, f5, f6, f7, f8⟩ K hK
            have b6 : bb 6 := hd ⟨6, .data⟩ (by simp) (by rfl)
            have b4 : bb 4 := hd ⟨4, .data⟩ (by simp) (by rfl)
            obtain rfl := f4 b4
            obtain ⟨X, c0, c1, rfl, hX, ⟨hc0, hc1⟩, ⟨hf0, hf1⟩, -⟩ := f6 b6
            have HK := Lib.hid hK
            clear hK
            go_simp
            exact HK.out _ _ ⟨_, _, _, _, _, _, _, _, rfl, ((G.setCell hX _).setCell hX _), up (by decide) f0, up (by decide) f1, up (by decide) f2, up (by decide) f3, fun _ => rfl, up (by decide) f5, fun _ => VarAt.here hX hc0 hc1 hf0 hf1, fun _ => Or.inr b6, up (by decide) f8⟩
          · -- 8: addr
            rintro bb aa ww hn hd ⟨u5, u6, u50, u51, u52, u53, u54, u55, rfl, G, f0, f1, f2, f3, f4, f5, f6, f7, f8⟩ K hK
            have b5 : bb 5 := hd ⟨5, .data⟩ (by simp) (by rfl)
            obtain rfl := f5 b5
            have HK := Lib.hid hK
            clear hK
            go_simp
            exact HK.out _ _ ⟨_, _, _, _, _, _, _, _, rfl, G, up (by decide) f0, up (by decide) f1, up (by decide) f2, up (by decide) f3, up (by decide) f4, fun _ => rfl, fun h => (f6 (down (by decide) h)).step (Grown.refl _) (down (by decide)), fun h => Or.inr (f7 (down (by decide) h)), fun _ => rfl⟩
      case rest =>
      skip
      obtain ⟨rfl, GX⟩ := hcut
      have d0 := grownSome GX c0
      have d1 := grownSome GX c1
      have GY : Hid (Grown w wc) := Lib.hid (grownTrans GW.out GX)
      clear c0 c1 GX GW
      obtain ⟨W0, rfl⟩ : ∃ W0, W0 = wc := ⟨_, rfl⟩
      have c0 := d0
      have c1 := d1
      have GW := GY
      clear d0 d1 GY
      go_upto_region 6 with fail
      go_cut [8] (fun v wx => v = .int .i64 120 ∧ Grown W0 wx)
      case first =>
        go_wp2_with (go_at_call 24; ((with_reducible refine (cmp_is' x1 x2 x1 x2 (0, 120) HN.out.2.2.1 _ (HT.out.grown GW.out)).mono ?_); rintro _ w1 ⟨rfl, hg⟩))
        go_meet
        case rel => exact ⟨rfl, hg⟩
      case rest =>
      skip
      obtain ⟨rfl, GX⟩ := hcut
      have d0 := grownSome GX c0
      have d1 := grownSome GX c1
      have GY : Hid (Grown w wc) := Lib.hid (grownTrans GW.out GX)
      clear c0 c1 GX GW
      obtain ⟨W0, rfl⟩ : ∃ W0, W0 = wc := ⟨_, rfl⟩
      have c0 := d0
      have c1 := d1
      have GW := GY
      clear d0 d1 GY
      go_upto_region 7 with fail
      go_cut [10] (fun v wx => v = .int .i64 120 ∧ Grown W0 wx)
      case first =>
        go_wp2_with (go_at_call 30; ((with_reducible refine (floor_is x1 x2 (0, 120) HN.out.2.2.2.1 _ (HT.out.grown GW.out)).mono ?_); rintro _ w1 ⟨rfl, hg⟩))
        go_meet
        case rel => exact ⟨rfl, hg⟩
      case rest =>
      skip
      obtain ⟨rfl, GX⟩ := hcut
      have d0 := grownSome GX c0
      have d1 := grownSome GX c1
      have GY : Hid (Grown w wc) := Lib.hid (grownTrans GW.out GX)
      clear c0 c1 GX GW
      obtain ⟨W0, rfl⟩ : ∃ W0, W0 = wc := ⟨_, rfl⟩
      have c0 := d0
      have c1 := d1
      have GW := GY
      clear d0 d1 GY
      go_upto_region 8 with fail
      go_cut [12] (fun v wx => v = .int .i64 120 ∧ Grown W0 wx)
      case first =>
        refine region_inv (J := fun bb aa ww => ∃ u11 u12 u67 u68 u69 u70 u71 u72 : Value, aa = ⟨#[u0, undef, .pointer (some ⟨B, 0, none⟩), u3, .int .i64 120, u5, .int .i64 120, u7, .int .i64 120, u9, .int .i64 120, u11, u12, undef, undef, undef, undef, undef, undef, undef, undef, undef, undef, undef, undef, undef, undef, undef, undef, undef, undef, undef, undef, .agg #[.int .i64 0, .int .i64 0], .agg #[.int .i64 1, .int .i64 0], .agg #[.int .i64 1, .int .i64 (-1)], .agg #[.int .i64 0, .int .i64 2], .agg #[.int .i64 1073741825, .int .i64 1], .agg #[.int .i64 1, .int .i64 1073741825], .agg #[.int .i64 (-9223372036854775808), .int .i64 1], .agg #[.int .i64 0, .int .i64 0, .int .i64 1, .int .i64 0, .int .i64 1, .int .i64 (-1), .int .i64 0, .int .i64 2, .int .i64 1073741825, .int .i64 1, .int .i64 1, .int .i64 1073741825, .int .i64 (-9223372036854775808), .int .i64 1], .int .i64 k, u42, u43, u44, u45, u46, u47, u48, u49, u50, u51, u52, u53, u54, u55, u56, u57, u58, u59, u60, u61, u62, u63, u64, u65, u66, u67, u68, u69, u70, u71, u72, u73, u74, u75, u76, u77, u78, u79, u80, u81, u82, u83, u84, u85, u86, u87, u88, u89, u90, u91, u92, u93, u94, u95, u96, undef, undef, undef, undef, undef, undef, undef, undef, undef, undef, undef, undef, undef, undef, undef, undef, undef, undef, undef, undef, undef, undef, undef, undef, undef, undef, undef, undef, undef, undef, undef, undef, undef, undef, undef, undef, undef, undef, undef, undef, undef, undef, undef, undef, undef, undef, undef, undef, undef, undef, undef, undef, undef, undef, undef, undef, undef, undef, undef, undef, undef, undef, undef, undef, undef, undef, undef, undef, undef, undef, undef, undef, undef, undef, undef, undef, undef, undef, undef, undef, undef, undef, undef, undef, undef, undef, undef, undef, undef, undef, undef, undef, undef, undef, undef, undef, undef, undef, undef, undef, undef, undef, undef, undef, undef, undef, undef, undef, undef], []⟩ ∧ Grown W0 ww ∧ (bb 0 → u68 = .agg #[.int .i64 1, .int .i64 1]) ∧ (bb 1 → u69 = .agg #[.int .i64 x1, .int .i64 x2]) ∧ (bb 2 → u70 = .tuple #[.agg #[.int .i64 0, .int .i64 0], .int .i64 120]) ∧ (bb 3 → u67 = .tuple #[.agg #[.int .i64 0, .int .i64 0], .int .i64 120]) ∧ (bb 4 → u71 = .agg #[.int .i64 0, .int .i64 0]) ∧ (bb 5 → u72 = .int .i64 120) ∧ (bb 6 → VarAt W0 ww u11 (bb 7) (.int .i64 0) (.int .i64 0)) ∧ (bb 7 → bb 6) ∧ (bb 8 → u12 = .int .i64 120)) (by kernel_rfl) (by kernel_rfl) ?done ?start ?steps
        case done =>
          rintro bb aa ww hb ⟨u11, u12, u67, u68, u69, u70, u71, u72, rfl, G, f0, f1, f2, f3, f4, f5, f6, f7, f8⟩
          have g0 := f0 (hb 0 (by decide))
          have g1 := f1 (hb 1 (by decide))
          have g2 := f2 (hb 2 (by decide))
          have g3 := f3 (hb 3 (by decide))
          have g4 := f4 (hb 4 (by decide))
          have g5 := f5 (hb 5 (by decide))
          have g6 := f6 (hb 6 (by decide))
          have g8 := f8 (hb 8 (by decide))
          obtain ⟨X6, x6, y6, rfl, hX6, ⟨hc6, hd6⟩, -, hs6⟩ := g6
          obtain ⟨rfl, rfl⟩ := hs6 (hb 7 (by decide))
          go_wp2_with fail
          go_meet
          case rel => exact ⟨rfl, G⟩
        case start => exact ⟨_, _, _, _, _, _, _, _, rfl, Grown.drew (Grown.refl _), fun h => h.elim, fun h => h.elim, fun h => h.elim, fun h => h.elim, fun h => h.elim, fun h => h.elim, fun h => h.elim, fun h => h.elim, fun h => h.elim⟩
        case steps =>
          refine StepsFrom.cons (k := 0) ?_ (StepsFrom.cons (k := 1) ?_ (StepsFrom.cons (k := 2) ?_ (StepsFrom.cons (k := 3) ?_ (StepsFrom.cons (k := 4) ?_ (StepsFrom.cons (k := 5) ?_ (StepsFrom.cons (k := 6) ?_ (StepsFrom.cons (k := 7) ?_ (StepsFrom.cons (k := 8) ?_ (StepsFrom.nil)))))))))
          · -- 0: call
            rintro bb aa ww hn hd ⟨u11, u12, u67, u68, u69, u70, u71, u72, rfl, G, f0, f1, f2, f3, f4, f5, f6, f7, f8⟩ K hK
            have HK := Lib.hid hK
            clear hK
            go_wp2_with ((go_at_call 35); ((with_reducible refine (of_frac 1 1 _).mono ?_); rintro _ w1 ⟨rfl, hg⟩))
            exact HK.out _ _ ⟨_, _, _, _, _, _, _, _, rfl, (grownTrans G hg), fun _ => rfl, up (by decide) f1, up (by decide) f2, up (by decide) f3, up (by decide) f4, up (by decide) f5, fun h => (f6 (down (by decide) h)).step hg (down (by decide)), fun h => Or.inr (f7 (down (by decide) h)), up (by decide) f8⟩
          · -- 1: load
            rintro bb aa ww hn hd ⟨u11, u12, u67, u68, u69, u70, u71, u72, rfl, G, f0, f1, f2, f3, f4, f5, f6, f7, f8⟩ K hK
            have k0 := grownSome G c0
            have k1 := grownSome G c1
            have HK := Lib.hid hK
            clear hK
            go_simp
            exact HK.out _ _ ⟨_, _, _, _, _, _, _, _, rfl, G, up (by decide) f0, fun _ => rfl, up (by decide) f2, up (by decide) f3, up (by decide) f4, up (by decide) f5, fun h => (f6 (down (by decide) h)).step (Grown.refl _) (down (by decide)), fun h => Or.inr (f7 (down (by decide) h)), up (by decide) f8⟩
          · -- 2: call
            rintro bb aa ww hn hd ⟨u11, u12, u67, u68, u69, u70, u71, u72, rfl, G, f0, f1, f2, f3, f4, f5, f6, f7, f8⟩ K hK
            have b0 : bb 0 := hd ⟨0, .data⟩ (by simp) (by rfl)
            obtain rfl := f0 b0
            have b1 : bb 1 := hd ⟨1, .data⟩ (by simp) (by rfl)
            obtain rfl := f1 b1
            have HK := Lib.hid hK
            clear hK
            go_wp2_with ((go_at_call 28); ((with_reducible refine (max_is 1 1 x1 x2 (0, 0, 120) HN.out.2.2.2.2.1 _ (HT.out.grown (grownTrans GW.out G))).mono ?_); rintro _ w1 ⟨rfl, hg⟩))
            exact HK.out _ _ ⟨_, _, _, _, _, _, _, _, rfl, (grownTrans G hg), fun _ => rfl, fun _ => rfl, fun _ => rfl, up (by decide) f3, up (by decide) f4, up (by decide) f5, fun h => (f6 (down (by decide) h)).step hg (down (by decide)), fun h => Or.inr (f7 (down (by decide) h)), up (by decide) f8⟩
          · -- 3: addr
            rintro bb aa ww hn hd ⟨u11, u12, u67, u68, u69, u70, u71, u72, rfl, G, f0, f1, f2, f3, f4, f5, f6, f7, f8⟩ K hK
            have b2 : bb 2 := hd ⟨2, .data⟩ (by simp) (by rfl)
            obtain rfl := f2 b2
            have HK := Lib.hid hK
            clear hK
            go_simp
            exact HK.out _ _ ⟨_, _, _, _, _, _, _, _, rfl, G, up (by decide) f0, up (by decide) f1, fun _ => rfl, fun _ => rfl, up (by decide) f4, up (by decide) f5, fun h => (f6 (down (by decide) h)).step (Grown.refl _) (down (by decide)), fun h => Or.inr (f7 (down (by decide) h)), up (by decide) f8⟩
          · -- 4: addr
            rintro bb aa ww hn hd ⟨u11, u12, u67, u68, u69, u70, u71, u72, rfl, G, f0, f1, f2, f3, f4, f5, f6, f7, f8⟩ K hK
            have b3 : bb 3 := hd ⟨3, .data⟩ (by simp) (by rfl)
            obtain rfl := f3 b3
            have HK := Lib.hid hK
            clear hK
            go_simp
            exact HK.out _ _ ⟨_, _, _, _, _, _, _, _, rfl, G, up (by decide) f0, up (by decide) f1, up (by decide) f2, fun _ => rfl, fun _ => rfl, up (by decide) f5, fun h => (f6 (down (by decide) h)).step (Grown.refl _) (down (by decide)), fun h => Or.inr (f7 (down (by decide) h)), up (by decide) f8⟩
          · -- 5: addr
            rintro bb aa ww hn hd ⟨u11, u12, u67, u68, u69, u70, u71, u72, rfl, G, f0, f1, f2, f3, f4, f5, f6, f7, f8⟩ K hK
            have b3 : bb 3 := hd ⟨3, .data⟩ (by simp) (by rfl)
            obtain rfl := f3 b3
            have HK := Lib.hid hK
            clear hK
            go_simp
            exact HK.out _ _ ⟨_, _, _, _, _, _, _, _, rfl, G, up (by decide) f0, up (by decide) f1, up (by decide) f2, fun _ => rfl, up (by decide) f4, fun _ => rfl, fun h => (f6 (down (by decide) h)).step (Grown.refl _) (down (by decide)), fun h => Or.inr (f7 (down (by decide) h)), up (by decide) f8⟩
          · -- 6: alloc
            rintro bb aa ww hn hd ⟨u11, u12, u67, u68, u69, u70, u71, u72, rfl, G, f0, f1, f2, f3, f4, f5, f6, f7, f8⟩ K hK
            have HK := Lib.hid hK
            clear hK
            go_simp
            exact HK.out _ _ ⟨_, _, _, _, _, _, _, _, rfl, (Grown.alloc G _ _), up (by decide) f0, up (by decide) f1, up (by decide) f2, up (by decide) f3, up (by decide) f4, up (by decide) f5, fun _ => VarAt.new G (fun h => hn (f7 (h.resolve_left (by decide)))), fun _ => Or.inl rfl, up (by decide) f8⟩
          · -- 7: store
            rintro bb aa ww hn hd ⟨u11, u12, u67, u68, u69, u70, u71, u72, rfl, G, f0, f1, f2, f3, f4, f5, f6, f7, f8⟩ K hK
            have b6 : bb 6 := hd ⟨6, .data⟩ (by simp) (by rfl)
            have b4 : bb 4 := hd ⟨4, .data⟩ (by simp) (by rfl)
            obtain rfl := f4 b4
            obtain ⟨X, c0, c1, rfl, hX, ⟨hc0, hc1⟩, ⟨hf0, hf1⟩, -⟩ := f6 b6
            have HK := Lib.hid hK
            clear hK
            go_simp
            exact HK.out _ _ ⟨_, _, _, _, _, _, _, _, rfl, ((G.setCell hX _).setCell hX _), up (by decide) f0, up (by decide) f1, up (by decide) f2, up (by decide) f3, fun _ => rfl, up (by decide) f5, fun _ => VarAt.here hX hc0 hc1 hf0 hf1, fun _ => Or.inr b6, up (by decide) f8⟩
          · -- 8: addr
            rintro bb aa ww hn hd ⟨u11, u12, u67, u68, u69, u70, u71, u72, rfl, G, f0, f1, f2, f3, f4, f5, f6, f7, f8⟩ K hK
            have b5 : bb 5 := hd ⟨5, .data⟩ (by simp) (by rfl)
            obtain rfl := f5 b5
            have HK := Lib.hid hK
            clear hK
            go_simp
            exact HK.out _ _ ⟨_, _, _, _, _, _, _, _, rfl, G, up (by decide) f0, up (by decide) f1, up (by decide) f2, up (by decide) f3, up (by decide) f4, fun _ => rfl, fun h => (f6 (down (by decide) h)).step (Grown.refl _) (down (by decide)), fun h => Or.inr (f7 (down (by decide) h)), fun _ => rfl⟩
      case rest =>
      skip
      obtain ⟨rfl, GX⟩ := hcut
      have d0 := grownSome GX c0
      have d1 := grownSome GX c1
      have GY : Hid (Grown w wc) := Lib.hid (grownTrans GW.out GX)
      clear c0 c1 GX GW
      obtain ⟨W0, rfl⟩ : ∃ W0, W0 = wc := ⟨_, rfl⟩
      have c0 := d0
      have c1 := d1
      have GW := GY
      clear d0 d1 GY
      go_wp2_with fail
      go_at_call 12
      refine (check_is' x1 x2 120 HN.out.2.2.2.2.2 _ (HT.out.grown GW.out)).mono ?_
      rintro _ w1 ⟨rfl, hg⟩
      go_wp2_with fail
      go_roundw
      case rel => exact ⟨k + 1, by omega, by omega, rfl, Lib.hid (grownTrans GW.out hg)⟩
      case measure => simp [intOf]; omega
    · -- the end
      obtain rfl : k = 7 := by omega
      have HT0 : Hid (Tab wr) := Lib.hid (HT.out.grown G0.out)
      go_wp2_with fail
      go_at_call 35
      refine (of_frac (-1073741824) 1 _).mono ?_
      rintro _ w1 ⟨rfl, hg1⟩
      have G1 : Hid (Grown w w1) := Lib.hid (grownTrans G0.out hg1)
      have K1 := Lib.hid hg1
      clear hg1 K1
      have HT1 : Hid (Tab w1) := Lib.hid (HT.out.grown G1.out)
      go_wp2_with fail
      go_at_call 35
      refine (of_frac 0 1 _).mono ?_
      rintro _ w2 ⟨rfl, hg2⟩
      have G2 : Hid (Grown w w2) := Lib.hid (grownTrans G1.out hg2)
      have K2 := Lib.hid hg2
      clear hg2 K2
      clear HT1
      have HT2 : Hid (Tab w2) := Lib.hid (HT.out.grown G2.out)
      go_wp2_with fail
      go_at_call 18
      refine (sub_is (-1073741824) 1 0 1 (-1073741824, 1, 0) (by kernel_rfl) _ HT2.out).mono ?_
      rintro _ w3 ⟨rfl, hg3⟩
      have G3 : Hid (Grown w w3) := Lib.hid (grownTrans G2.out hg3)
      have K3 := Lib.hid hg3
      clear hg3 K3
      clear HT2
      have HT3 : Hid (Tab w3) := Lib.hid (HT.out.grown G3.out)
      go_wp2_with fail
      go_at_call 35
      refine (of_frac (-1073741824) 1 _).mono ?_
      rintro _ w4 ⟨rfl, hg4⟩
      obtain ⟨G4, c13_0_4, c13_1_4, K4⟩ := fracKeep G3.out hg4
      clear hg4 K4
      clear HT3
      have HT4 : Hid (Tab w4) := Lib.hid (HT.out.grown G4.out)
      generalize w3.heap.size = B13 at *
      go_wp2_with fail
      go_at_call 35
      refine (of_frac 1 1 _).mono ?_
      rintro _ w5 ⟨rfl, hg5⟩
      have G5 : Hid (Grown w w5) := Lib.hid (grownTrans G4.out hg5)
      have K5 := Lib.hid hg5
      have c13_0_5 := grownSome K5.out c13_0_4
      have c13_1_5 := grownSome K5.out c13_1_4
      clear c13_0_4 c13_1_4
      clear hg5 K5
      clear HT4
      have HT5 : Hid (Tab w5) := Lib.hid (HT.out.grown G5.out)
      go_wp2_with fail
      go_at_call 18
      refine (sub_is (-1073741824) 1 1 1 (0, 0, 6) (by kernel_rfl) _ HT5.out).mono ?_
      rintro _ w6 ⟨rfl, hg6⟩
      have G6 : Hid (Grown w w6) := Lib.hid (grownTrans G5.out hg6)
      have K6 := Lib.hid hg6
      have c13_0_6 := grownSome K6.out c13_0_5
      have c13_1_6 := grownSome K6.out c13_1_5
      clear c13_0_5 c13_1_5
      clear hg6 K6
      clear HT5
      have HT6 : Hid (Tab w6) := Lib.hid (HT.out.grown G6.out)
      have m13_15 : B13 < w6.heap.size := cellBlock c13_0_6
      have l13_15 : ¬ B13 = w6.heap.size := blkNe c13_0_6
      have l15_13 : ¬ w6.heap.size = B13 := fun h => l13_15 h.symm
      go_wp2_with fail
      go_at_call 35
      refine (of_frac 1 1073741824 _).mono ?_
      rintro _ w7 ⟨rfl, hg7⟩
      obtain ⟨G7, c15_0_7, c15_1_7, K7⟩ := fracKeep G6.out hg7
      have c13_0_7 := grownSome K7.out c13_0_6
      have c13_1_7 := grownSome K7.out c13_1_6
      clear c13_0_6 c13_1_6
      clear hg7 K7
      clear HT6
      have HT7 : Hid (Tab w7) := Lib.hid (HT.out.grown G7.out)
      generalize w6.heap.size = B15 at *
      clear c15_0_7 c15_1_7
      go_wp2_with fail
      go_at_call 35
      refine (of_frac (-1) 1073741824 _).mono ?_
      rintro _ w8 ⟨rfl, hg8⟩
      have G8 : Hid (Grown w w8) := Lib.hid (grownTrans G7.out hg8)
      have K8 := Lib.hid hg8
      have c13_0_8 := grownSome K8.out c13_0_7
      have c13_1_8 := grownSome K8.out c13_1_7
      clear c13_0_7 c13_1_7
      clear hg8 K8
      clear HT7
      have HT8 : Hid (Tab w8) := Lib.hid (HT.out.grown G8.out)
      go_wp2_with fail
      go_at_call 16
      refine (add_is 1 1073741824 (-1) 1073741824 (0, 1, 0) (by kernel_rfl) _ HT8.out).mono ?_
      rintro _ w9 ⟨rfl, hg9⟩
      have G9 : Hid (Grown w w9) := Lib.hid (grownTrans G8.out hg9)
      have K9 := Lib.hid hg9
      have c13_0_9 := grownSome K9.out c13_0_8
      have c13_1_9 := grownSome K9.out c13_1_8
      clear c13_0_8 c13_1_8
      clear hg9 K9
      clear HT8
      have HT9 : Hid (Tab w9) := Lib.hid (HT.out.grown G9.out)
      have m13_17 : B13 < w9.heap.size := cellBlock c13_0_9
      have l13_17 : ¬ B13 = w9.heap.size := blkNe c13_0_9
      have l17_13 : ¬ w9.heap.size = B13 := fun h => l13_17 h.symm
      go_wp2_with fail
      go_at_call 35
      refine (of_frac 1 1073741824 _).mono ?_
      rintro _ w10 ⟨rfl, hg10⟩
      obtain ⟨G10, c17_0_10, c17_1_10, K10⟩ := fracKeep G9.out hg10
      have c13_0_10 := grownSome K10.out c13_0_9
      have c13_1_10 := grownSome K10.out c13_1_9
      clear c13_0_9 c13_1_9
      clear hg10 K10
      clear HT9
      have HT10 : Hid (Tab w10) := Lib.hid (HT.out.grown G10.out)
      generalize w9.heap.size = B17 at *
      go_wp2_with fail
      go_at_call 35
      refine (of_frac 1 1073741823 _).mono ?_
      rintro _ w11 ⟨rfl, hg11⟩
      have G11 : Hid (Grown w w11) := Lib.hid (grownTrans G10.out hg11)
      have K11 := Lib.hid hg11
      have c13_0_11 := grownSome K11.out c13_0_10
      have c13_1_11 := grownSome K11.out c13_1_10
      have c17_0_11 := grownSome K11.out c17_0_10
      have c17_1_11 := grownSome K11.out c17_1_10
      clear c13_0_10 c13_1_10 c17_0_10 c17_1_10
      clear hg11 K11
      clear HT10
      have HT11 : Hid (Tab w11) := Lib.hid (HT.out.grown G11.out)
      go_wp2_with fail
      go_at_call 16
      refine (add_is 1 1073741824 1 1073741823 (0, 0, 6) (by kernel_rfl) _ HT11.out).mono ?_
      rintro _ w12 ⟨rfl, hg12⟩
      have G12 : Hid (Grown w w12) := Lib.hid (grownTrans G11.out hg12)
      have K12 := Lib.hid hg12
      have c13_0_12 := grownSome K12.out c13_0_11
      have c13_1_12 := grownSome K12.out c13_1_11
      have c17_0_12 := grownSome K12.out c17_0_11
      have c17_1_12 := grownSome K12.out c17_1_11
      clear c13_0_11 c13_1_11 c17_0_11 c17_1_11
      clear hg12 K12
      clear HT11
      have HT12 : Hid (Tab w12) := Lib.hid (HT.out.grown G12.out)
      have m13_19 : B13 < w12.heap.size := cellBlock c13_0_12
      have l13_19 : ¬ B13 = w12.heap.size := blkNe c13_0_12
      have l19_13 : ¬ w12.heap.size = B13 := fun h => l13_19 h.symm
      have m17_19 : B17 < w12.heap.size := cellBlock c17_0_12
      have l17_19 : ¬ B17 = w12.heap.size := blkNe c17_0_12
      have l19_17 : ¬ w12.heap.size = B17 := fun h => l17_19 h.symm
      go_wp2_with fail
      go_at_call 10
      refine (make_is (-4611686018427387904) 4294967296 (-1073741824, 1, 0) (by kernel_rfl) _).mono ?_
      rintro _ w13 ⟨rfl, hg13⟩
      obtain ⟨G13, c19_0_13, c19_1_13, K13⟩ := fracKeep G12.out hg13
      have c13_0_13 := grownSome K13.out c13_0_12
      have c13_1_13 := grownSome K13.out c13_1_12
      have c17_0_13 := grownSome K13.out c17_0_12
      have c17_1_13 := grownSome K13.out c17_1_12
      clear c13_0_12 c13_1_12 c17_0_12 c17_1_12
      clear hg13 K13
      clear HT12
      have HT13 : Hid (Tab w13) := Lib.hid (HT.out.grown G13.out)
      generalize w12.heap.size = B19 at *
      have m13_21 : B13 < w13.heap.size := cellBlock c13_0_13
      have l13_21 : ¬ B13 = w13.heap.size := blkNe c13_0_13
      have l21_13 : ¬ w13.heap.size = B13 := fun h => l13_21 h.symm
      have m17_21 : B17 < w13.heap.size := cellBlock c17_0_13
      have l17_21 : ¬ B17 = w13.heap.size := blkNe c17_0_13
      have l21_17 : ¬ w13.heap.size = B17 := fun h => l17_21 h.symm
      have m19_21 : B19 < w13.heap.size := cellBlock c19_0_13
      have l19_21 : ¬ B19 = w13.heap.size := blkNe c19_0_13
      have l21_19 : ¬ w13.heap.size = B19 := fun h => l19_21 h.symm
      clear c19_0_13 c19_1_13
      go_wp2_with fail
      go_at_call 10
      refine (make_is (-9223372036854775808) 1 (0, 0, 6) (by kernel_rfl) _).mono ?_
      rintro _ w14 ⟨rfl, hg14⟩
      obtain ⟨G14, c21_0_14, c21_1_14, K14⟩ := fracKeep G13.out hg14
      have c13_0_14 := grownSome K14.out c13_0_13
      have c13_1_14 := grownSome K14.out c13_1_13
      have c17_0_14 := grownSome K14.out c17_0_13
      have c17_1_14 := grownSome K14.out c17_1_13
      clear c13_0_13 c13_1_13 c17_0_13 c17_1_13
      clear hg14 K14
      clear HT13
      have HT14 : Hid (Tab w14) := Lib.hid (HT.out.grown G14.out)
      generalize w13.heap.size = B21 at *
      have m13_23 : B13 < w14.heap.size := cellBlock c13_0_14
      have l13_23 : ¬ B13 = w14.heap.size := blkNe c13_0_14
      have l23_13 : ¬ w14.heap.size = B13 := fun h => l13_23 h.symm
      have m17_23 : B17 < w14.heap.size := cellBlock c17_0_14
      have l17_23 : ¬ B17 = w14.heap.size := blkNe c17_0_14
      have l23_17 : ¬ w14.heap.size = B17 := fun h => l17_23 h.symm
      have m21_23 : B21 < w14.heap.size := cellBlock c21_0_14
      have l21_23 : ¬ B21 = w14.heap.size := blkNe c21_0_14
      have l23_21 : ¬ w14.heap.size = B21 := fun h => l21_23 h.symm
      go_wp2_with fail
      go_at_call 10
      refine (make_is 1 (-9223372036854775808) (0, 0, 6) (by kernel_rfl) _).mono ?_
      rintro _ w15 ⟨rfl, hg15⟩
      obtain ⟨G15, c23_0_15, c23_1_15, K15⟩ := fracKeep G14.out hg15
      have c13_0_15 := grownSome K15.out c13_0_14
      have c13_1_15 := grownSome K15.out c13_1_14
      have c17_0_15 := grownSome K15.out c17_0_14
      have c17_1_15 := grownSome K15.out c17_1_14
      have c21_0_15 := grownSome K15.out c21_0_14
      have c21_1_15 := grownSome K15.out c21_1_14
      clear c13_0_14 c13_1_14 c17_0_14 c17_1_14 c21_0_14 c21_1_14
      clear hg15 K15
      clear HT14
      have HT15 : Hid (Tab w15) := Lib.hid (HT.out.grown G15.out)
      generalize w14.heap.size = B23 at *
      have m13_25 : B13 < w15.heap.size := cellBlock c13_0_15
      have l13_25 : ¬ B13 = w15.heap.size := blkNe c13_0_15
      have l25_13 : ¬ w15.heap.size = B13 := fun h => l13_25 h.symm
      have m17_25 : B17 < w15.heap.size := cellBlock c17_0_15
      have l17_25 : ¬ B17 = w15.heap.size := blkNe c17_0_15
      have l25_17 : ¬ w15.heap.size = B17 := fun h => l17_25 h.symm
      have m21_25 : B21 < w15.heap.size := cellBlock c21_0_15
      have l21_25 : ¬ B21 = w15.heap.size := blkNe c21_0_15
      have l25_21 : ¬ w15.heap.size = B21 := fun h => l21_25 h.symm
      have m23_25 : B23 < w15.heap.size := cellBlock c23_0_15
      have l23_25 : ¬ B23 = w15.heap.size := blkNe c23_0_15
      have l25_23 : ¬ w15.heap.size = B23 := fun h => l23_25 h.symm
      clear c23_0_15 c23_1_15
      go_wp2_with fail
      go_at_call 35
      refine (of_frac 1073741824 3 _).mono ?_
      rintro _ w16 ⟨rfl, hg16⟩
      obtain ⟨G16, c25_0_16, c25_1_16, K16⟩ := fracKeep G15.out hg16
      have c13_0_16 := grownSome K16.out c13_0_15
      have c13_1_16 := grownSome K16.out c13_1_15
      have c17_0_16 := grownSome K16.out c17_0_15
      have c17_1_16 := grownSome K16.out c17_1_15
      have c21_0_16 := grownSome K16.out c21_0_15
      have c21_1_16 := grownSome K16.out c21_1_15
      clear c13_0_15 c13_1_15 c17_0_15 c17_1_15 c21_0_15 c21_1_15
      clear hg16 K16
      clear HT15
      have HT16 : Hid (Tab w16) := Lib.hid (HT.out.grown G16.out)
      generalize w15.heap.size = B25 at *
      clear c25_0_16 c25_1_16
      go_wp2_with fail
      go_at_call 35
      refine (of_frac 3 1073741824 _).mono ?_
      rintro _ w17 ⟨rfl, hg17⟩
      have G17 : Hid (Grown w w17) := Lib.hid (grownTrans G16.out hg17)
      have K17 := Lib.hid hg17
      have c13_0_17 := grownSome K17.out c13_0_16
      have c13_1_17 := grownSome K17.out c13_1_16
      have c17_0_17 := grownSome K17.out c17_0_16
      have c17_1_17 := grownSome K17.out c17_1_16
      have c21_0_17 := grownSome K17.out c21_0_16
      have c21_1_17 := grownSome K17.out c21_1_16
      clear c13_0_16 c13_1_16 c17_0_16 c17_1_16 c21_0_16 c21_1_16
      clear hg17 K17
      clear HT16
      have HT17 : Hid (Tab w17) := Lib.hid (HT.out.grown G17.out)
      go_wp2_with fail
      go_at_call 20
      refine (mul_is 1073741824 3 3 1073741824 (1, 1, 0) (by kernel_rfl) _ HT17.out).mono ?_
      rintro _ w18 ⟨rfl, hg18⟩
      have G18 : Hid (Grown w w18) := Lib.hid (grownTrans G17.out hg18)
      have K18 := Lib.hid hg18
      have c13_0_18 := grownSome K18.out c13_0_17
      have c13_1_18 := grownSome K18.out c13_1_17
      have c17_0_18 := grownSome K18.out c17_0_17
      have c17_1_18 := grownSome K18.out c17_1_17
      have c21_0_18 := grownSome K18.out c21_0_17
      have c21_1_18 := grownSome K18.out c21_1_17
      clear c13_0_17 c13_1_17 c17_0_17 c17_1_17 c21_0_17 c21_1_17
      clear hg18 K18
      clear HT17
      have HT18 : Hid (Tab w18) := Lib.hid (HT.out.grown G18.out)
      have m13_27 : B13 < w18.heap.size := cellBlock c13_0_18
      have l13_27 : ¬ B13 = w18.heap.size := blkNe c13_0_18
      have l27_13 : ¬ w18.heap.size = B13 := fun h => l13_27 h.symm
      have m17_27 : B17 < w18.heap.size := cellBlock c17_0_18
      have l17_27 : ¬ B17 = w18.heap.size := blkNe c17_0_18
      have l27_17 : ¬ w18.heap.size = B17 := fun h => l17_27 h.symm
      have m21_27 : B21 < w18.heap.size := cellBlock c21_0_18
      have l21_27 : ¬ B21 = w18.heap.size := blkNe c21_0_18
      have l27_21 : ¬ w18.heap.size = B21 := fun h => l21_27 h.symm
      go_wp2_with fail
      go_at_call 35
      refine (of_frac (-1) 1073741824 _).mono ?_
      rintro _ w19 ⟨rfl, hg19⟩
      obtain ⟨G19, c27_0_19, c27_1_19, K19⟩ := fracKeep G18.out hg19
      have c13_0_19 := grownSome K19.out c13_0_18
      have c13_1_19 := grownSome K19.out c13_1_18
      have c17_0_19 := grownSome K19.out c17_0_18
      have c17_1_19 := grownSome K19.out c17_1_18
      have c21_0_19 := grownSome K19.out c21_0_18
      have c21_1_19 := grownSome K19.out c21_1_18
      clear c13_0_18 c13_1_18 c17_0_18 c17_1_18 c21_0_18 c21_1_18
      clear hg19 K19
      clear HT18
      have HT19 : Hid (Tab w19) := Lib.hid (HT.out.grown G19.out)
      generalize w18.heap.size = B27 at *
      go_wp2_with fail
      go_at_call 30
      refine (floor_is (-1) 1073741824 (-1, 0) (by kernel_rfl) _ HT19.out).mono ?_
      rintro _ w20 ⟨rfl, hg20⟩
      have G20 : Hid (Grown w w20) := Lib.hid (grownTrans G19.out hg20)
      have K20 := Lib.hid hg20
      have c13_0_20 := grownSome K20.out c13_0_19
      have c13_1_20 := grownSome K20.out c13_1_19
      have c17_0_20 := grownSome K20.out c17_0_19
      have c17_1_20 := grownSome K20.out c17_1_19
      have c21_0_20 := grownSome K20.out c21_0_19
      have c21_1_20 := grownSome K20.out c21_1_19
      have c27_0_20 := grownSome K20.out c27_0_19
      have c27_1_20 := grownSome K20.out c27_1_19
      clear c13_0_19 c13_1_19 c17_0_19 c17_1_19 c21_0_19 c21_1_19 c27_0_19 c27_1_19
      clear hg20 K20
      clear HT19
      have HT20 : Hid (Tab w20) := Lib.hid (HT.out.grown G20.out)
      go_wp2_with fail
      go_at_call 35
      refine (of_frac 1 1073741824 _).mono ?_
      rintro _ w21 ⟨rfl, hg21⟩
      have G21 : Hid (Grown w w21) := Lib.hid (grownTrans G20.out hg21)
      have K21 := Lib.hid hg21
      have c13_0_21 := grownSome K21.out c13_0_20
      have c13_1_21 := grownSome K21.out c13_1_20
      have c17_0_21 := grownSome K21.out c17_0_20
      have c17_1_21 := grownSome K21.out c17_1_20
      have c21_0_21 := grownSome K21.out c21_0_20
      have c21_1_21 := grownSome K21.out c21_1_20
      have c27_0_21 := grownSome K21.out c27_0_20
      have c27_1_21 := grownSome K21.out c27_1_20
      clear c13_0_20 c13_1_20 c17_0_20 c17_1_20 c21_0_20 c21_1_20 c27_0_20 c27_1_20
      clear hg21 K21
      clear HT20
      have HT21 : Hid (Tab w21) := Lib.hid (HT.out.grown G21.out)
      go_wp2_with fail
      go_at_call 32
      refine (ceil_is 1 1073741824 (1, 0) (by kernel_rfl) _ HT21.out).mono ?_
      rintro _ w22 ⟨rfl, hg22⟩
      have G22 : Hid (Grown w w22) := Lib.hid (grownTrans G21.out hg22)
      have K22 := Lib.hid hg22
      have c13_0_22 := grownSome K22.out c13_0_21
      have c13_1_22 := grownSome K22.out c13_1_21
      have c17_0_22 := grownSome K22.out c17_0_21
      have c17_1_22 := grownSome K22.out c17_1_21
      have c21_0_22 := grownSome K22.out c21_0_21
      have c21_1_22 := grownSome K22.out c21_1_21
      have c27_0_22 := grownSome K22.out c27_0_21
      have c27_1_22 := grownSome K22.out c27_1_21
      clear c13_0_21 c13_1_21 c17_0_21 c17_1_21 c21_0_21 c21_1_21 c27_0_21 c27_1_21
      clear hg22 K22
      clear HT21
      have HT22 : Hid (Tab w22) := Lib.hid (HT.out.grown G22.out)
      go_wp2_with fail
      go_at_call 14
      refine (works_true _ HT22.out).mono ?_
      rintro _ w23 ⟨rfl, hg23⟩
      have G23 : Hid (Grown w w23) := Lib.hid (grownTrans G22.out hg23)
      have K23 := Lib.hid hg23
      have c13_0_23 := grownSome K23.out c13_0_22
      have c13_1_23 := grownSome K23.out c13_1_22
      have c17_0_23 := grownSome K23.out c17_0_22
      have c17_1_23 := grownSome K23.out c17_1_22
      have c21_0_23 := grownSome K23.out c21_0_22
      have c21_1_23 := grownSome K23.out c21_1_22
      have c27_0_23 := grownSome K23.out c27_0_22
      have c27_1_23 := grownSome K23.out c27_1_22
      clear c13_0_22 c13_1_22 c17_0_22 c17_1_22 c21_0_22 c21_1_22 c27_0_22 c27_1_22
      clear hg23 K23
      clear HT22
      have HT23 : Hid (Tab w23) := Lib.hid (HT.out.grown G23.out)
      go_wp2_with fail
      go_at_call 36
      refine (is_yes (-1073741824) 1 _).mono ?_
      rintro _ w24 ⟨rfl, hg24⟩
      have G24 : Hid (Grown w w24) := Lib.hid (grownTrans G23.out hg24)
      have K24 := Lib.hid hg24
      have c13_0_24 := grownSome K24.out c13_0_23
      have c13_1_24 := grownSome K24.out c13_1_23
      have c17_0_24 := grownSome K24.out c17_0_23
      have c17_1_24 := grownSome K24.out c17_1_23
      have c21_0_24 := grownSome K24.out c21_0_23
      have c21_1_24 := grownSome K24.out c21_1_23
      have c27_0_24 := grownSome K24.out c27_0_23
      have c27_1_24 := grownSome K24.out c27_1_23
      clear c13_0_23 c13_1_23 c17_0_23 c17_1_23 c21_0_23 c21_1_23 c27_0_23 c27_1_23
      clear hg24 K24
      clear HT23
      have HT24 : Hid (Tab w24) := Lib.hid (HT.out.grown G24.out)
      clear c13_0_24 c13_1_24
      go_wp2_with fail
      go_at_call 36
      refine (is_yes 0 1 _).mono ?_
      rintro _ w25 ⟨rfl, hg25⟩
      have G25 : Hid (Grown w w25) := Lib.hid (grownTrans G24.out hg25)
      have K25 := Lib.hid hg25
      have c17_0_25 := grownSome K25.out c17_0_24
      have c17_1_25 := grownSome K25.out c17_1_24
      have c21_0_25 := grownSome K25.out c21_0_24
      have c21_1_25 := grownSome K25.out c21_1_24
      have c27_0_25 := grownSome K25.out c27_0_24
      have c27_1_25 := grownSome K25.out c27_1_24
      clear c17_0_24 c17_1_24 c21_0_24 c21_1_24 c27_0_24 c27_1_24
      clear hg25 K25
      clear HT24
      have HT25 : Hid (Tab w25) := Lib.hid (HT.out.grown G25.out)
      clear c17_0_25 c17_1_25
      go_wp2_with fail
      go_at_call 36
      refine (is_yes (-1073741824) 1 _).mono ?_
      rintro _ w26 ⟨rfl, hg26⟩
      have G26 : Hid (Grown w w26) := Lib.hid (grownTrans G25.out hg26)
      have K26 := Lib.hid hg26
      have c21_0_26 := grownSome K26.out c21_0_25
      have c21_1_26 := grownSome K26.out c21_1_25
      have c27_0_26 := grownSome K26.out c27_0_25
      have c27_1_26 := grownSome K26.out c27_1_25
      clear c21_0_25 c21_1_25 c27_0_25 c27_1_25
      clear hg26 K26
      clear HT25
      have HT26 : Hid (Tab w26) := Lib.hid (HT.out.grown G26.out)
      clear c21_0_26 c21_1_26
      go_wp2_with fail
      go_at_call 36
      refine (is_yes 1 1 _).mono ?_
      rintro _ w27 ⟨rfl, hg27⟩
      have G27 : Hid (Grown w w27) := Lib.hid (grownTrans G26.out hg27)
      have K27 := Lib.hid hg27
      have c27_0_27 := grownSome K27.out c27_0_26
      have c27_1_27 := grownSome K27.out c27_1_26
      clear c27_0_26 c27_1_26
      clear hg27 K27
      clear HT26
      have HT27 : Hid (Tab w27) := Lib.hid (HT.out.grown G27.out)
      clear c27_0_27 c27_1_27
      go_wp2_with fail
      go_ret
      exact ⟨rfl, G27.out⟩

end Go.Proofs.YtiibpdameldblaaDoor
