/- RatMakes' walk: the program and the reference answer the same. -/
import Derived.Test.YtiibpdameldblaaDoorLawScales
import Derived.Test.YtiibpdameldblaaDoorRegion
import Derived.Deep.DeepCutAuto
import Derived.Deep.CutRange
namespace Go.Proofs.YtiibpdameldblaaDoor
open Go Go.RowKit
attribute [local go_sem ↓] Go.wp_at_zero Go.wp_at_succ

theorem refcheck_is (n d c : Int) (h : checkS n d = c) (w : World) : Calls Tryd.prog 13 #[.agg #[.int .i64 n, .int .i64 d]] w (Num c w) := h ▸ refcheck_any n d w

set_option maxRecDepth 100000 in
set_option maxHeartbeats 8000000 in
theorem makes_true (n d xn xd : Int) (w : World) (hT : Tab w) : Calls Tryd.prog 3 #[.int .i64 n, .int .i64 d, .agg #[.int .i64 xn, .int .i64 xd]] w fun e w' => e = .returned (.bool true) ∧ Grown w w' := by
  have HT9 := Lib.hid hT
  clear hT
  go_enter Tryd.func3, Tryd.ntmps3
  have hs1 := Int.tmod_lt_of_pos (IntKind.u64.wrap d) (show (0 : Int) < 63 by omega)
  have hs0 := Int.tmod_nonneg (63 : Int) (u64_nonneg d)
  go_upto_region 2 with fail
  go_cut [41, 42] (fun v41 v42 wx => (∃ e0 e1 e2 e3 e4 e5 e6 e7 e8 e9 e10 e11 : Int, v41 = .agg #[.int .i64 e0, .int .i64 e1, .int .i64 e2, .int .i64 e3, .int .i64 e4, .int .i64 e5, .int .i64 e6, .int .i64 e7, .int .i64 e8, .int .i64 e9, .int .i64 e10, .int .i64 e11]) ∧ v42 = .int .i64 0 ∧ wx = w.alloc (.cells #[.int .i64 xn, .int .i64 xd] 23))
  case first =>
    go_wp2_with fail
    go_meet
    case rel => exact ⟨⟨_, _, _, _, _, _, _, _, _, _, _, _, rfl⟩, rfl, rfl⟩
  case rest =>
  obtain ⟨⟨e0, e1, e2, e3, e4, e5, e6, e7, e8, e9, e10, e11, rfl⟩, rfl, rfl⟩ := hcut
  clear hs0 hs1
  have hi : ∀ k : Int, 0 ≤ k → k < 6 → ∃ x1 x2 : Int, ∀ w, (Instr.index 26 (.agg #[.int .i64 e0, .int .i64 e1, .int .i64 e2, .int .i64 e3, .int .i64 e4, .int .i64 e5, .int .i64 e6, .int .i64 e7, .int .i64 e8, .int .i64 e9, .int .i64 e10, .int .i64 e11]) (.int .i64 k)).run Tryd.prog w = .ok (.agg #[.int .i64 x1, .int .i64 x2]) w := by
    intro k h0 h4
    obtain rfl | rfl | rfl | rfl | rfl | rfl : k = 0 ∨ k = 1 ∨ k = 2 ∨ k = 3 ∨ k = 4 ∨ k = 5 := by omega
    · exact ⟨e0, e1, fun _ => by kernel_rfl⟩
    · exact ⟨e2, e3, fun _ => by kernel_rfl⟩
    · exact ⟨e4, e5, fun _ => by kernel_rfl⟩
    · exact ⟨e6, e7, fun _ => by kernel_rfl⟩
    · exact ⟨e8, e9, fun _ => by kernel_rfl⟩
    · exact ⟨e10, e11, fun _ => by kernel_rfl⟩
  have HI := Lib.hid hi
  clear hi
  have p0 : (w.alloc (.cells #[.int .i64 xn, .int .i64 xd] 23)).cell? ⟨w.heap.size, 0, none⟩ = some (.int .i64 xn) := by simp [go_sem]
  have p1 : (w.alloc (.cells #[.int .i64 xn, .int .i64 xd] 23)).cell? ⟨w.heap.size, 1, none⟩ = some (.int .i64 xd) := by simp [go_sem]
  have GW : Hid (Grown w (w.alloc (.cells #[.int .i64 xn, .int .i64 xd] 23))) := Lib.hid (Grown.alloc (Grown.refl _) _ _)
  generalize w.alloc (.cells #[.int .i64 xn, .int .i64 xd] 23) = WA at *
  generalize w.heap.size = BX at *
  have HT : Hid (Tab WA) := Lib.hid (HT9.out.grown GW.out)
  clear HT9
  have P := Lib.hid (And.intro p0 p1)
  clear p0 p1
  go_wp2_with fail
  go_loopw [42] (fun i wr => ∃ k : Int, 0 ≤ k ∧ k ≤ 6 ∧ i = .int .i64 k ∧ Hid (Grown WA wr)) (fun i _ => 6 - (intOf i).toNat)
  case atStart => exact ⟨0, by omega, by omega, rfl, Lib.hid (Grown.refl _)⟩
  case round =>
    obtain ⟨k, hk0, hk6, rfl, G0⟩ := hrel
    by_cases hk : k < 6
    · -- a round
      obtain ⟨x1, x2, hx⟩ := HI.out k hk0 hk
      obtain ⟨⟨s0, t0, er⟩, hs⟩ : ∃ r, makeS x1 x2 = r := ⟨_, rfl⟩
      have HS := Lib.hid hs
      obtain ⟨c, hc⟩ : ∃ c, checkS x1 x2 = c := ⟨_, rfl⟩
      have HC := Lib.hid hc
      clear hs hc
      have HT0 : Hid (Tab wr) := Lib.hid (HT.out.grown G0.out)
      go_wp2_with fail
      go_at_call 10
      refine (make_is x1 x2 (s0, t0, er) HS.out _).mono ?_
      rintro _ w1 ⟨rfl, hg1⟩
      obtain ⟨G1, cK_0_1, cK_1_1, K1⟩ := fracKeep G0.out hg1
      clear hg1 K1
      have HT1 : Hid (Tab w1) := Lib.hid (HT.out.grown G1.out)
      generalize wr.heap.size = BK at *
      have mK_P : BK < w1.heap.size := cellBlock cK_0_1
      have lK_P : ¬ BK = w1.heap.size := blkNe cK_0_1
      have lP_K : ¬ w1.heap.size = BK := fun h => lK_P h.symm
      go_wp2_with fail
      go_at_call 11
      refine (refmake_is x1 x2 (s0, t0, er) HS.out _).mono ?_
      rintro _ w2 ⟨rfl, hg2⟩
      obtain ⟨G2, cP_0_2, cP_1_2, K2⟩ := fracKeep G1.out hg2
      have cK_0_2 := grownSome K2.out cK_0_1
      have cK_1_2 := grownSome K2.out cK_1_1
      clear cK_0_1 cK_1_1
      clear hg2 K2
      clear HT1
      have HT2 : Hid (Tab w2) := Lib.hid (HT.out.grown G2.out)
      generalize w1.heap.size = BP at *
      have mK_R : BK < w2.heap.size := cellBlock cK_0_2
      have lK_R : ¬ BK = w2.heap.size := blkNe cK_0_2
      have lR_K : ¬ w2.heap.size = BK := fun h => lK_R h.symm
      have mP_R : BP < w2.heap.size := cellBlock cP_0_2
      have lP_R : ¬ BP = w2.heap.size := blkNe cP_0_2
      have lR_P : ¬ w2.heap.size = BP := fun h => lP_R h.symm
      go_upto_region 7 with fail
      have c0 := grownSome (Grown.alloc (Grown.refl w2) #[.int .i64 s0, .int .i64 t0] 23) cK_0_2
      have c1 := grownSome (Grown.alloc (Grown.refl w2) #[.int .i64 s0, .int .i64 t0] 23) cK_1_2
      have d0 := grownSome (Grown.alloc (Grown.refl w2) #[.int .i64 s0, .int .i64 t0] 23) cP_0_2
      have d1 := grownSome (Grown.alloc (Grown.refl w2) #[.int .i64 s0, .int .i64 t0] 23) cP_1_2
      have r0 : (w2.alloc (.cells #[.int .i64 s0, .int .i64 t0] 23)).cell? ⟨w2.heap.size, 0, none⟩ = some (.int .i64 s0) := by simp [go_sem]
      have r1 : (w2.alloc (.cells #[.int .i64 s0, .int .i64 t0] 23)).cell? ⟨w2.heap.size, 1, none⟩ = some (.int .i64 t0) := by simp [go_sem]
      have GX : Hid (Grown WA (w2.alloc (.cells #[.int .i64 s0, .int .i64 t0] 23))) := Lib.hid (Grown.alloc G2.out _ _)
      clear cK_0_2 cK_1_2 cP_0_2 cP_1_2
      generalize w2.alloc (.cells #[.int .i64 s0, .int .i64 t0] 23) = W0 at *
      generalize w2.heap.size = BR at *
      go_cut [68] (fun v wx => v = .bool false ∧ wx = W0)
      case first =>
        go_wp2_with fail
        go_meet
        case rel => exact ⟨rfl, rfl⟩
      case rest =>
      obtain ⟨rfl, hW⟩ := hcut
      subst hW
      clear d0 d1 r0 r1
      go_upto_region 9 with fail
      go_cut [81] (fun v wx => v = .bool false ∧ Grown wc wx)
      case first =>
        refine region_inv (J := fun bb aa ww => ∃ u69 u70 u71 u72 u73 u74 u75 u76 u77 u78 u79 u80 u81 : Value, aa = ⟨#[.int .i64 n, .int .i64 d, .agg #[.int .i64 xn, .int .i64 xd], undef, undef, .pointer (some ⟨BX, 0, none⟩), u6, .int .u64 ((IntKind.u64.wrap d).tmod 63), undef, .pointer (some ⟨BK, 0, none⟩), .pointer (some ⟨BP, 0, none⟩), .int .i64 er, .pointer (some ⟨BR, 0, none⟩), .int .i64 er, u14, u15, u16, u17, u18, u19, u20, u21, u22, u23, u24, u25, u26, u27, u28, u29, u30, u31, u32, u33, u34, u35, u36, u37, u38, u39, u40, .agg #[.int .i64 e0, .int .i64 e1, .int .i64 e2, .int .i64 e3, .int .i64 e4, .int .i64 e5, .int .i64 e6, .int .i64 e7, .int .i64 e8, .int .i64 e9, .int .i64 e10, .int .i64 e11], .int .i64 k, u43, u44, u45, u46, u47, u48, u49, u50, u51, u52, u53, u54, u55, u56, u57, u58, u59, u60, u61, u62, u63, u64, u65, u66, u67, .bool false, u69, u70, u71, u72, u73, u74, u75, u76, u77, u78, u79, u80, u81, u82, u83, u84, u85, u86, u87, u88, u89, u90], []⟩ ∧ Grown wc ww ∧ (bb 0 → u69 = .pointer (some ⟨BK, 0, none⟩)) ∧ (bb 1 → u70 = .int .i64 x1) ∧ (bb 2 → u71 = .pointer (some ⟨BK, 1, none⟩)) ∧ (bb 3 → u72 = .int .i64 x2) ∧ (bb 4 → u73 = .agg #[.int .i64 x1, .int .i64 x2]) ∧ (bb 5 → u74 = .int .i64 c) ∧ (bb 6 → u75 = .pointer (some ⟨BK, 0, none⟩)) ∧ (bb 7 → u76 = .int .i64 x1) ∧ (bb 8 → u77 = .pointer (some ⟨BK, 1, none⟩)) ∧ (bb 9 → u78 = .int .i64 x2) ∧ (bb 10 → u79 = .agg #[.int .i64 x1, .int .i64 x2]) ∧ (bb 11 → u80 = .int .i64 c) ∧ (bb 12 → u81 = .bool false)) (by kernel_rfl) (by kernel_rfl) ?done ?start ?steps
        case done =>
          rintro bb aa ww hb ⟨u69, u70, u71, u72, u73, u74, u75, u76, u77, u78, u79, u80, u81, rfl, G, f0, f1, f2, f3, f4, f5, f6, f7, f8, f9, f10, f11, f12⟩
          have g0 := f0 (hb 0 (by decide))
          have g1 := f1 (hb 1 (by decide))
          have g2 := f2 (hb 2 (by decide))
          have g3 := f3 (hb 3 (by decide))
          have g4 := f4 (hb 4 (by decide))
          have g5 := f5 (hb 5 (by decide))
          have g6 := f6 (hb 6 (by decide))
          have g7 := f7 (hb 7 (by decide))
          have g8 := f8 (hb 8 (by decide))
          have g9 := f9 (hb 9 (by decide))
          have g10 := f10 (hb 10 (by decide))
          have g11 := f11 (hb 11 (by decide))
          have g12 := f12 (hb 12 (by decide))
          go_wp2_with fail
          go_meet
          case rel => exact ⟨g12, G⟩
        case start => exact ⟨_, _, _, _, _, _, _, _, _, _, _, _, _, rfl, Grown.drew (Grown.refl _), fun h => h.elim, fun h => h.elim, fun h => h.elim, fun h => h.elim, fun h => h.elim, fun h => h.elim, fun h => h.elim, fun h => h.elim, fun h => h.elim, fun h => h.elim, fun h => h.elim, fun h => h.elim, fun h => h.elim⟩
        case steps =>
          refine StepsFrom.cons (k := 0) ?_ (StepsFrom.cons (k := 1) ?_ (StepsFrom.cons (k := 2) ?_ (StepsFrom.cons (k := 3) ?_ (StepsFrom.cons (k := 4) ?_ (StepsFrom.cons (k := 5) ?_ (StepsFrom.cons (k := 6) ?_ (StepsFrom.cons (k := 7) ?_ (StepsFrom.cons (k := 8) ?_ (StepsFrom.cons (k := 9) ?_ (StepsFrom.cons (k := 10) ?_ (StepsFrom.cons (k := 11) ?_ (StepsFrom.cons (k := 12) ?_ (StepsFrom.nil)))))))))))))
          · -- 0: addr
            rintro bb aa ww hn hd ⟨u69, u70, u71, u72, u73, u74, u75, u76, u77, u78, u79, u80, u81, rfl, G, f0, f1, f2, f3, f4, f5, f6, f7, f8, f9, f10, f11, f12⟩ K hK
            have HK := Lib.hid hK
            clear hK
            go_simp
            exact HK.out _ _ ⟨_, _, _, _, _, _, _, _, _, _, _, _, _, rfl, G, fun _ => rfl, up (by decide) f1, up (by decide) f2, up (by decide) f3, up (by decide) f4, up (by decide) f5, up (by decide) f6, up (by decide) f7, up (by decide) f8, up (by decide) f9, up (by decide) f10, up (by decide) f11, up (by decide) f12⟩
          · -- 1: load
            rintro bb aa ww hn hd ⟨u69, u70, u71, u72, u73, u74, u75, u76, u77, u78, u79, u80, u81, rfl, G, f0, f1, f2, f3, f4, f5, f6, f7, f8, f9, f10, f11, f12⟩ K hK
            have b0 : bb 0 := hd ⟨0, .data⟩ (by simp) (by rfl)
            obtain rfl := f0 b0
            have k0 := grownSome G c0
            have HK := Lib.hid hK
            clear hK
            go_simp
            exact HK.out _ _ ⟨_, _, _, _, _, _, _, _, _, _, _, _, _, rfl, G, fun _ => rfl, fun _ => rfl, up (by decide) f2, up (by decide) f3, up (by decide) f4, up (by decide) f5, up (by decide) f6, up (by decide) f7, up (by decide) f8, up (by decide) f9, up (by decide) f10, up (by decide) f11, up (by decide) f12⟩
          · -- 2: addr
            rintro bb aa ww hn hd ⟨u69, u70, u71, u72, u73, u74, u75, u76, u77, u78, u79, u80, u81, rfl, G, f0, f1, f2, f3, f4, f5, f6, f7, f8, f9, f10, f11, f12⟩ K hK
            have HK := Lib.hid hK
            clear hK
            go_simp
            exact HK.out _ _ ⟨_, _, _, _, _, _, _, _, _, _, _, _, _, rfl, G, up (by decide) f0, up (by decide) f1, fun _ => rfl, up (by decide) f3, up (by decide) f4, up (by decide) f5, up (by decide) f6, up (by decide) f7, up (by decide) f8, up (by decide) f9, up (by decide) f10, up (by decide) f11, up (by decide) f12⟩
          · -- 3: load
            rintro bb aa ww hn hd ⟨u69, u70, u71, u72, u73, u74, u75, u76, u77, u78, u79, u80, u81, rfl, G, f0, f1, f2, f3, f4, f5, f6, f7, f8, f9, f10, f11, f12⟩ K hK
            have b2 : bb 2 := hd ⟨2, .data⟩ (by simp) (by rfl)
            obtain rfl := f2 b2
            have k0 := grownSome G c1
            have HK := Lib.hid hK
            clear hK
            go_simp
            exact HK.out _ _ ⟨_, _, _, _, _, _, _, _, _, _, _, _, _, rfl, G, up (by decide) f0, up (by decide) f1, fun _ => rfl, fun _ => rfl, up (by decide) f4, up (by decide) f5, up (by decide) f6, up (by decide) f7, up (by decide) f8, up (by decide) f9, up (by decide) f10, up (by decide) f11, up (by decide) f12⟩
          · -- 4: addr
            rintro bb aa ww hn hd ⟨u69, u70, u71, u72, u73, u74, u75, u76, u77, u78, u79, u80, u81, rfl, G, f0, f1, f2, f3, f4, f5, f6, f7, f8, f9, f10, f11, f12⟩ K hK
            have b1 : bb 1 := hd ⟨1, .data⟩ (by simp) (by rfl)
            obtain rfl := f1 b1
            have b3 : bb 3 := hd ⟨3, .data⟩ (by simp) (by rfl)
            obtain rfl := f3 b3
            have HK := Lib.hid hK
            clear hK
            go_simp
            exact HK.out _ _ ⟨_, _, _, _, _, _, _, _, _, _, _, _, _, rfl, G, up (by decide) f0, fun _ => rfl, up (by decide) f2, fun _ => rfl, fun _ => rfl, up (by decide) f5, up (by decide) f6, up (by decide) f7, up (by decide) f8, up (by decide) f9, up (by decide) f10, up (by decide) f11, up (by decide) f12⟩
          · -- 5: call
            rintro bb aa ww hn hd ⟨u69, u70, u71, u72, u73, u74, u75, u76, u77, u78, u79, u80, u81, rfl, G, f0, f1, f2, f3, f4, f5, f6, f7, f8, f9, f10, f11, f12⟩ K hK
            have b4 : bb 4 := hd ⟨4, .data⟩ (by simp) (by rfl)
            obtain rfl := f4 b4
            have HK := Lib.hid hK
            clear hK
            go_wp2_with ((go_at_call 12); ((with_reducible refine (check_is' x1 x2 c HC.out _ (HT.out.grown (grownTrans GX.out G))).mono ?_); rintro _ w1 ⟨rfl, hg⟩))
            exact HK.out _ _ ⟨_, _, _, _, _, _, _, _, _, _, _, _, _, rfl, (grownTrans G hg), up (by decide) f0, up (by decide) f1, up (by decide) f2, up (by decide) f3, fun _ => rfl, fun _ => rfl, up (by decide) f6, up (by decide) f7, up (by decide) f8, up (by decide) f9, up (by decide) f10, up (by decide) f11, up (by decide) f12⟩
          · -- 6: addr
            rintro bb aa ww hn hd ⟨u69, u70, u71, u72, u73, u74, u75, u76, u77, u78, u79, u80, u81, rfl, G, f0, f1, f2, f3, f4, f5, f6, f7, f8, f9, f10, f11, f12⟩ K hK
            have HK := Lib.hid hK
            clear hK
            go_simp
            exact HK.out _ _ ⟨_, _, _, _, _, _, _, _, _, _, _, _, _, rfl, G, up (by decide) f0, up (by decide) f1, up (by decide) f2, up (by decide) f3, up (by decide) f4, up (by decide) f5, fun _ => rfl, up (by decide) f7, up (by decide) f8, up (by decide) f9, up (by decide) f10, up (by decide) f11, up (by decide) f12⟩
          · -- 7: load
            rintro bb aa ww hn hd ⟨u69, u70, u71, u72, u73, u74, u75, u76, u77, u78, u79, u80, u81, rfl, G, f0, f1, f2, f3, f4, f5, f6, f7, f8, f9, f10, f11, f12⟩ K hK
            have b6 : bb 6 := hd ⟨6, .data⟩ (by simp) (by rfl)
            obtain rfl := f6 b6
            have k0 := grownSome G c0
            have HK := Lib.hid hK
            clear hK
            go_simp
            exact HK.out _ _ ⟨_, _, _, _, _, _, _, _, _, _, _, _, _, rfl, G, up (by decide) f0, up (by decide) f1, up (by decide) f2, up (by decide) f3, up (by decide) f4, up (by decide) f5, fun _ => rfl, fun _ => rfl, up (by decide) f8, up (by decide) f9, up (by decide) f10, up (by decide) f11, up (by decide) f12⟩
          · -- 8: addr
            rintro bb aa ww hn hd ⟨u69, u70, u71, u72, u73, u74, u75, u76, u77, u78, u79, u80, u81, rfl, G, f0, f1, f2, f3, f4, f5, f6, f7, f8, f9, f10, f11, f12⟩ K hK
            have HK := Lib.hid hK
            clear hK
            go_simp
            exact HK.out _ _ ⟨_, _, _, _, _, _, _, _, _, _, _, _, _, rfl, G, up (by decide) f0, up (by decide) f1, up (by decide) f2, up (by decide) f3, up (by decide) f4, up (by decide) f5, up (by decide) f6, up (by decide) f7, fun _ => rfl, up (by decide) f9, up (by decide) f10, up (by decide) f11, up (by decide) f12⟩
          · -- 9: load
            rintro bb aa ww hn hd ⟨u69, u70, u71, u72, u73, u74, u75, u76, u77, u78, u79, u80, u81, rfl, G, f0, f1, f2, f3, f4, f5, f6, f7, f8, f9, f10, f11, f12⟩ K hK
            have b8 : bb 8 := hd ⟨8, .data⟩ (by simp) (by rfl)
            obtain rfl := f8 b8
            have k0 := grownSome G c1
            have HK := Lib.hid hK
            clear hK
            go_simp
            exact HK.out _ _ ⟨_, _, _, _, _, _, _, _, _, _, _, _, _, rfl, G, up (by decide) f0, up (by decide) f1, up (by decide) f2, up (by decide) f3, up (by decide) f4, up (by decide) f5, up (by decide) f6, up (by decide) f7, fun _ => rfl, fun _ => rfl, up (by decide) f10, up (by decide) f11, up (by decide) f12⟩
          · -- 10: addr
            rintro bb aa ww hn hd ⟨u69, u70, u71, u72, u73, u74, u75, u76, u77, u78, u79, u80, u81, rfl, G, f0, f1, f2, f3, f4, f5, f6, f7, f8, f9, f10, f11, f12⟩ K hK
            have b7 : bb 7 := hd ⟨7, .data⟩ (by simp) (by rfl)
            obtain rfl := f7 b7
            have b9 : bb 9 := hd ⟨9, .data⟩ (by simp) (by rfl)
            obtain rfl := f9 b9
            have HK := Lib.hid hK
            clear hK
            go_simp
            exact HK.out _ _ ⟨_, _, _, _, _, _, _, _, _, _, _, _, _, rfl, G, up (by decide) f0, up (by decide) f1, up (by decide) f2, up (by decide) f3, up (by decide) f4, up (by decide) f5, up (by decide) f6, fun _ => rfl, up (by decide) f8, fun _ => rfl, fun _ => rfl, up (by decide) f11, up (by decide) f12⟩
          · -- 11: call
            rintro bb aa ww hn hd ⟨u69, u70, u71, u72, u73, u74, u75, u76, u77, u78, u79, u80, u81, rfl, G, f0, f1, f2, f3, f4, f5, f6, f7, f8, f9, f10, f11, f12⟩ K hK
            have b10 : bb 10 := hd ⟨10, .data⟩ (by simp) (by rfl)
            obtain rfl := f10 b10
            have HK := Lib.hid hK
            clear hK
            go_wp2_with ((go_at_call 13); ((with_reducible refine (refcheck_is x1 x2 c HC.out _).mono ?_); rintro _ w1 ⟨rfl, hg⟩))
            exact HK.out _ _ ⟨_, _, _, _, _, _, _, _, _, _, _, _, _, rfl, (grownTrans G hg), up (by decide) f0, up (by decide) f1, up (by decide) f2, up (by decide) f3, up (by decide) f4, up (by decide) f5, up (by decide) f6, up (by decide) f7, up (by decide) f8, up (by decide) f9, fun _ => rfl, fun _ => rfl, up (by decide) f12⟩
          · -- 12: addr
            rintro bb aa ww hn hd ⟨u69, u70, u71, u72, u73, u74, u75, u76, u77, u78, u79, u80, u81, rfl, G, f0, f1, f2, f3, f4, f5, f6, f7, f8, f9, f10, f11, f12⟩ K hK
            have b5 : bb 5 := hd ⟨5, .data⟩ (by simp) (by rfl)
            obtain rfl := f5 b5
            have b11 : bb 11 := hd ⟨11, .data⟩ (by simp) (by rfl)
            obtain rfl := f11 b11
            have HK := Lib.hid hK
            clear hK
            go_simp
            exact HK.out _ _ ⟨_, _, _, _, _, _, _, _, _, _, _, _, _, rfl, G, up (by decide) f0, up (by decide) f1, up (by decide) f2, up (by decide) f3, up (by decide) f4, fun _ => rfl, up (by decide) f6, up (by decide) f7, up (by decide) f8, up (by decide) f9, up (by decide) f10, fun _ => rfl, fun _ => rfl⟩
      case rest =>
      obtain ⟨rfl, GY⟩ := hcut
      go_wp2_with fail
      go_roundw
      case rel => exact ⟨k + 1, by omega, by omega, rfl, Lib.hid (grownTrans GX.out GY)⟩
      case measure => simp [intOf]; omega
    · -- the end
      obtain rfl : k = 6 := by omega
      obtain ⟨c, hc⟩ : ∃ c, checkS xn xd = c := ⟨_, rfl⟩
      have HC := Lib.hid hc
      clear hc
      have q0 := grownSome G0.out P.out.1
      have q1 := grownSome G0.out P.out.2
      have GX := G0
      go_upto_region 12 with fail
      go_cut [6] (fun v wx => v = .bool true ∧ Grown wr wx)
      case first =>
        refine region_inv (J := fun bb aa ww => ∃ u6 u83 u84 u85 u86 u87 u88 u89 u90 : Value, aa = ⟨#[.int .i64 n, .int .i64 d, .agg #[.int .i64 xn, .int .i64 xd], undef, undef, .pointer (some ⟨BX, 0, none⟩), u6, .int .u64 ((IntKind.u64.wrap d).tmod 63), undef, u9, u10, u11, u12, u13, u14, u15, u16, u17, u18, u19, u20, u21, u22, u23, u24, u25, u26, u27, u28, u29, u30, u31, u32, u33, u34, u35, u36, u37, u38, u39, u40, .agg #[.int .i64 e0, .int .i64 e1, .int .i64 e2, .int .i64 e3, .int .i64 e4, .int .i64 e5, .int .i64 e6, .int .i64 e7, .int .i64 e8, .int .i64 e9, .int .i64 e10, .int .i64 e11], .int .i64 6, .bool false, u44, u45, u46, u47, u48, u49, u50, u51, u52, u53, u54, u55, u56, u57, u58, u59, u60, u61, u62, u63, u64, u65, u66, u67, u68, u69, u70, u71, u72, u73, u74, u75, u76, u77, u78, u79, u80, u81, u82, u83, u84, u85, u86, u87, u88, u89, u90], []⟩ ∧ Grown wr ww ∧ (bb 0 → u83 = .agg #[.int .i64 xn, .int .i64 xd]) ∧ (bb 1 → u84 = .int .i64 c) ∧ (bb 2 → u85 = .agg #[.int .i64 xn, .int .i64 xd]) ∧ (bb 3 → u86 = .int .i64 c) ∧ (bb 4 → u87 = .bool true) ∧ (bb 5 → u88 = .bool true) ∧ (bb 6 → u89 = .bool true) ∧ (bb 7 → u90 = .bool true) ∧ (bb 8 → u6 = .bool true)) (by kernel_rfl) (by kernel_rfl) ?done ?start ?steps
        case done =>
          rintro bb aa ww hb ⟨u6, u83, u84, u85, u86, u87, u88, u89, u90, rfl, G, f0, f1, f2, f3, f4, f5, f6, f7, f8⟩
          have g0 := f0 (hb 0 (by decide))
          have g1 := f1 (hb 1 (by decide))
          have g2 := f2 (hb 2 (by decide))
          have g3 := f3 (hb 3 (by decide))
          have g4 := f4 (hb 4 (by decide))
          have g5 := f5 (hb 5 (by decide))
          have g6 := f6 (hb 6 (by decide))
          have g7 := f7 (hb 7 (by decide))
          have g8 := f8 (hb 8 (by decide))
          go_wp2_with fail
          go_meet
          case rel => exact ⟨rfl, G⟩
        case start => exact ⟨_, _, _, _, _, _, _, _, _, rfl, Grown.drew (Grown.refl _), fun h => h.elim, fun h => h.elim, fun h => h.elim, fun h => h.elim, fun h => h.elim, fun h => h.elim, fun h => h.elim, fun h => h.elim, fun h => h.elim⟩
        case steps =>
          refine StepsFrom.cons (k := 0) ?_ (StepsFrom.cons (k := 1) ?_ (StepsFrom.cons (k := 2) ?_ (StepsFrom.cons (k := 3) ?_ (StepsFrom.cons (k := 4) ?_ (StepsFrom.cons (k := 5) ?_ (StepsFrom.cons (k := 6) ?_ (StepsFrom.cons (k := 7) ?_ (StepsFrom.cons (k := 8) ?_ (StepsFrom.nil)))))))))
          · -- 0: load
            rintro bb aa ww hn hd ⟨u6, u83, u84, u85, u86, u87, u88, u89, u90, rfl, G, f0, f1, f2, f3, f4, f5, f6, f7, f8⟩ K hK
            have k0 := grownSome G q0
            have k1 := grownSome G q1
            have HK := Lib.hid hK
            clear hK
            go_simp
            exact HK.out _ _ ⟨_, _, _, _, _, _, _, _, _, rfl, G, fun _ => rfl, up (by decide) f1, up (by decide) f2, up (by decide) f3, up (by decide) f4, up (by decide) f5, up (by decide) f6, up (by decide) f7, up (by decide) f8⟩
          · -- 1: call
            rintro bb aa ww hn hd ⟨u6, u83, u84, u85, u86, u87, u88, u89, u90, rfl, G, f0, f1, f2, f3, f4, f5, f6, f7, f8⟩ K hK
            have b0 : bb 0 := hd ⟨0, .data⟩ (by simp) (by rfl)
            obtain rfl := f0 b0
            have HK := Lib.hid hK
            clear hK
            go_wp2_with ((go_at_call 12); ((with_reducible refine (check_is' xn xd c HC.out _ (HT.out.grown (grownTrans GX.out G))).mono ?_); rintro _ w1 ⟨rfl, hg⟩))
            exact HK.out _ _ ⟨_, _, _, _, _, _, _, _, _, rfl, (grownTrans G hg), fun _ => rfl, fun _ => rfl, up (by decide) f2, up (by decide) f3, up (by decide) f4, up (by decide) f5, up (by decide) f6, up (by decide) f7, up (by decide) f8⟩
          · -- 2: load
            rintro bb aa ww hn hd ⟨u6, u83, u84, u85, u86, u87, u88, u89, u90, rfl, G, f0, f1, f2, f3, f4, f5, f6, f7, f8⟩ K hK
            have k0 := grownSome G q0
            have k1 := grownSome G q1
            have HK := Lib.hid hK
            clear hK
            go_simp
            exact HK.out _ _ ⟨_, _, _, _, _, _, _, _, _, rfl, G, up (by decide) f0, up (by decide) f1, fun _ => rfl, up (by decide) f3, up (by decide) f4, up (by decide) f5, up (by decide) f6, up (by decide) f7, up (by decide) f8⟩
          · -- 3: call
            rintro bb aa ww hn hd ⟨u6, u83, u84, u85, u86, u87, u88, u89, u90, rfl, G, f0, f1, f2, f3, f4, f5, f6, f7, f8⟩ K hK
            have b2 : bb 2 := hd ⟨2, .data⟩ (by simp) (by rfl)
            obtain rfl := f2 b2
            have HK := Lib.hid hK
            clear hK
            go_wp2_with ((go_at_call 13); ((with_reducible refine (refcheck_is xn xd c HC.out _).mono ?_); rintro _ w1 ⟨rfl, hg⟩))
            exact HK.out _ _ ⟨_, _, _, _, _, _, _, _, _, rfl, (grownTrans G hg), up (by decide) f0, up (by decide) f1, fun _ => rfl, fun _ => rfl, up (by decide) f4, up (by decide) f5, up (by decide) f6, up (by decide) f7, up (by decide) f8⟩
          · -- 4: addr
            rintro bb aa ww hn hd ⟨u6, u83, u84, u85, u86, u87, u88, u89, u90, rfl, G, f0, f1, f2, f3, f4, f5, f6, f7, f8⟩ K hK
            have b1 : bb 1 := hd ⟨1, .data⟩ (by simp) (by rfl)
            obtain rfl := f1 b1
            have b3 : bb 3 := hd ⟨3, .data⟩ (by simp) (by rfl)
            obtain rfl := f3 b3
            have HK := Lib.hid hK
            clear hK
            go_simp
            exact HK.out _ _ ⟨_, _, _, _, _, _, _, _, _, rfl, G, up (by decide) f0, fun _ => rfl, up (by decide) f2, fun _ => rfl, fun _ => rfl, up (by decide) f5, up (by decide) f6, up (by decide) f7, up (by decide) f8⟩
          · -- 5: addr
            rintro bb aa ww hn hd ⟨u6, u83, u84, u85, u86, u87, u88, u89, u90, rfl, G, f0, f1, f2, f3, f4, f5, f6, f7, f8⟩ K hK
            have b4 : bb 4 := hd ⟨4, .data⟩ (by simp) (by rfl)
            obtain rfl := f4 b4
            have HK := Lib.hid hK
            clear hK
            go_simp
            exact HK.out _ _ ⟨_, _, _, _, _, _, _, _, _, rfl, G, up (by decide) f0, up (by decide) f1, up (by decide) f2, up (by decide) f3, fun _ => rfl, fun _ => rfl, up (by decide) f6, up (by decide) f7, up (by decide) f8⟩
          · -- 6: call
            rintro bb aa ww hn hd ⟨u6, u83, u84, u85, u86, u87, u88, u89, u90, rfl, G, f0, f1, f2, f3, f4, f5, f6, f7, f8⟩ K hK
            have b5 : bb 5 := hd ⟨5, .guard⟩ (by simp) (by rfl)
            obtain rfl := f5 b5
            have HK := Lib.hid hK
            clear hK
            go_wp2_with ((go_at_call 14); ((with_reducible refine (works_true _ (HT.out.grown (grownTrans GX.out G))).mono ?_); rintro _ w1 ⟨rfl, hg⟩))
            exact HK.out _ _ ⟨_, _, _, _, _, _, _, _, _, rfl, (grownTrans G hg), up (by decide) f0, up (by decide) f1, up (by decide) f2, up (by decide) f3, up (by decide) f4, fun _ => rfl, fun _ => rfl, up (by decide) f7, up (by decide) f8⟩
          · -- 7: addr
            rintro bb aa ww hn hd ⟨u6, u83, u84, u85, u86, u87, u88, u89, u90, rfl, G, f0, f1, f2, f3, f4, f5, f6, f7, f8⟩ K hK
            have b5 : bb 5 := hd ⟨5, .data⟩ (by simp) (by rfl)
            obtain rfl := f5 b5
            have b6 : bb 6 := hd ⟨6, .data⟩ (by simp) (by rfl)
            obtain rfl := f6 b6
            have HK := Lib.hid hK
            clear hK
            go_simp
            exact HK.out _ _ ⟨_, _, _, _, _, _, _, _, _, rfl, G, up (by decide) f0, up (by decide) f1, up (by decide) f2, up (by decide) f3, up (by decide) f4, fun _ => rfl, fun _ => rfl, fun _ => rfl, up (by decide) f8⟩
          · -- 8: addr
            rintro bb aa ww hn hd ⟨u6, u83, u84, u85, u86, u87, u88, u89, u90, rfl, G, f0, f1, f2, f3, f4, f5, f6, f7, f8⟩ K hK
            have b7 : bb 7 := hd ⟨7, .data⟩ (by simp) (by rfl)
            obtain rfl := f7 b7
            have HK := Lib.hid hK
            clear hK
            go_simp
            exact HK.out _ _ ⟨_, _, _, _, _, _, _, _, _, rfl, G, up (by decide) f0, up (by decide) f1, up (by decide) f2, up (by decide) f3, up (by decide) f4, up (by decide) f5, up (by decide) f6, fun _ => rfl, fun _ => rfl⟩
      case rest =>
      obtain ⟨rfl, GY⟩ := hcut
      go_wp2_with fail
      go_ret
      exact ⟨rfl, grownTrans GW.out (grownTrans G0.out GY)⟩

end Go.Proofs.YtiibpdameldblaaDoor
