/- RatField's walk: the field laws for small fractions. -/
import Derived.Test.YtiibpdameldblaaDoorSmall
import Derived.Test.YtiibpdameldblaaDoorRegion
import Derived.Deep.DeepCutAuto
import Derived.Deep.CutRange
import Derived.Test.YtiibpdameldblaaDoorLawOrder
namespace Go.Proofs.YtiibpdameldblaaDoor
open Go Go.RowKit
attribute [local go_sem ↓] Go.wp_at_zero Go.wp_at_succ

set_option maxRecDepth 100000 in
set_option maxHeartbeats 16000000 in
theorem field_walk (n0 n1 n2 d0 d1 d2 a1 a2 b1 b2 c1 c2 : Int) (w : World) (hT : Tab w) (ha : Small 128 30 a1 a2) (hb : Small 128 30 b1 b2) (hc : Small 128 30 c1 c2) (S0 : Hid (∀ w, Calls Tryd.prog 34 #[.int .i8 n0, .int .u8 d0] w (One (a1, a2) w))) (S1 : Hid (∀ w, Calls Tryd.prog 34 #[.int .i8 n1, .int .u8 d1] w (One (b1, b2) w))) (S2 : Hid (∀ w, Calls Tryd.prog 34 #[.int .i8 n2, .int .u8 d2] w (One (c1, c2) w))) :
    Calls Tryd.prog 6 #[.agg #[.int .i8 n0, .int .i8 n1, .int .i8 n2], .agg #[.int .u8 d0, .int .u8 d1, .int .u8 d2]] w fun e w' => e = .returned (.bool true) ∧ Grown w w' := by
  have HT := Lib.hid hT
  clear hT
  obtain ⟨s1, s2, t1, t2, l1, l2, hs, e1, e2, e3, e4, e5, e6, e7, vs⟩ := field_sums ha hb hc
  obtain ⟨x1, x2, p1, p2, z1, z2, g1, g2, r1, r2, f1, f2, f3, f4, f5, f6, f7, f8, f9, f10⟩ := field_prods ha hb hc hs vs
  have E7 := Lib.hid (checkS_yes e7)
  have E1 := Lib.hid e1
  have E2 := Lib.hid e2
  have E3 := Lib.hid e3
  have E4 := Lib.hid e4
  have E5 := Lib.hid e5
  have E6 := Lib.hid e6
  have F1 := Lib.hid f1
  have F2 := Lib.hid f2
  have F3 := Lib.hid f3
  have F4 := Lib.hid f4
  have F5 := Lib.hid f5
  have F6 := Lib.hid f6
  have F7 := Lib.hid f7
  have F8 := Lib.hid f8
  have F9 := Lib.hid f9
  have F10 := Lib.hid f10
  clear e1 e2 e3 e4 e5 e6 e7 vs hs f1 f2 f3 f4 f5 f6 f7 f8 f9 f10 ha hb hc
  go_enter Tryd.func6, Tryd.ntmps6
  go_wp2_with fail
  go_at_call 14
  refine (works_true _ (HT.out.grown (by go_grown))).mono ?_
  rintro _ W0 ⟨rfl, hg⟩
  have c00 : W0.cell? ⟨w.heap.size, 0, none⟩ = some (.int .i8 n0) := grownSome hg (by simp [go_sem])
  have c01 : W0.cell? ⟨w.heap.size, 1, none⟩ = some (.int .i8 n1) := grownSome hg (by simp [go_sem])
  have c02 : W0.cell? ⟨w.heap.size, 2, none⟩ = some (.int .i8 n2) := grownSome hg (by simp [go_sem])
  have c10 : W0.cell? ⟨w.heap.size + 1, 0, none⟩ = some (.int .u8 d0) := grownSome hg (by simp [go_sem])
  have c11 : W0.cell? ⟨w.heap.size + 1, 1, none⟩ = some (.int .u8 d1) := grownSome hg (by simp [go_sem])
  have c12 : W0.cell? ⟨w.heap.size + 1, 2, none⟩ = some (.int .u8 d2) := grownSome hg (by simp [go_sem])
  have GW : Hid (Grown w W0) := Lib.hid (grownTrans (by go_grown) hg)
  clear hg
  generalize w.heap.size + 1 = B1 at *
  generalize w.heap.size = B0 at *
  go_upto_region 3 with fail
  go_cut [5, 6, 7] (fun v5 v6 v7 wx => TripleAt W0 a1 a2 b1 b2 c1 c2 v5 v6 v7 wx)
  case first =>
    refine region_inv (J := fun bb aa ww => ∃ u5 u6 u7 u34 u35 u36 u37 u38 u39 u40 u41 u42 u43 u44 u45 u46 u47 u48 : Value, aa = ⟨#[.agg #[.int .i8 n0, .int .i8 n1, .int .i8 n2], .agg #[.int .u8 d0, .int .u8 d1, .int .u8 d2], .pointer (some ⟨B0, 0, none⟩), .pointer (some ⟨B1, 0, none⟩), .bool false, u5, u6, u7, undef, undef, undef, undef, undef, undef, undef, undef, undef, undef, undef, undef, undef, undef, undef, undef, undef, undef, undef, undef, undef, undef, undef, undef, .bool true, .bool false, u34, u35, u36, u37, u38, u39, u40, u41, u42, u43, u44, u45, u46, u47, u48, undef, undef, undef, undef, undef, undef, undef, undef, undef, undef, undef, undef, undef, undef, undef, undef, undef, undef, undef, undef, undef, undef, undef, undef, undef, undef, undef, undef, undef, undef, undef, undef, undef, undef, undef, undef, undef, undef, undef, undef, undef, undef, undef, undef, undef, undef, undef, undef, undef, undef, undef, undef, undef, undef, undef, undef, undef, undef, undef, undef, undef, undef, undef, undef, undef, undef, undef, undef, undef, undef, undef, undef, undef, undef, undef, undef, undef, undef, undef, undef, undef, undef, undef, undef, undef, undef, undef, undef, undef, undef, undef, undef, undef, undef, undef, undef, undef, undef, undef, undef, undef, undef, undef, undef, undef, undef, undef, undef, undef, undef, undef, undef, undef, undef, undef, undef, undef, undef, undef, undef, undef, undef, undef, undef, undef, undef, undef, undef, undef, undef, undef, undef, undef, undef, undef, undef, undef, undef, undef, undef, undef, undef, undef, undef, undef, undef, undef, undef, undef, undef, undef, undef, undef, undef, undef, undef, undef, undef, undef, undef, undef, undef, undef, undef, undef, undef, undef, undef, undef, undef, undef, undef, undef, undef, undef, undef, undef, undef, undef, undef, undef, undef, undef, undef, undef, undef, undef, undef, undef], []⟩ ∧ Grown W0 ww ∧ (bb 0 → u34 = .pointer (some ⟨B0, 0, none⟩)) ∧ (bb 1 → u35 = .int .i8 n0) ∧ (bb 2 → u36 = .pointer (some ⟨B1, 0, none⟩)) ∧ (bb 3 → u37 = .int .u8 d0) ∧ (bb 4 → u38 = .agg #[.int .i64 a1, .int .i64 a2]) ∧ (bb 5 → u39 = .pointer (some ⟨B0, 1, none⟩)) ∧ (bb 6 → u40 = .int .i8 n1) ∧ (bb 7 → u41 = .pointer (some ⟨B1, 1, none⟩)) ∧ (bb 8 → u42 = .int .u8 d1) ∧ (bb 9 → u43 = .agg #[.int .i64 b1, .int .i64 b2]) ∧ (bb 10 → u44 = .pointer (some ⟨B0, 2, none⟩)) ∧ (bb 11 → u45 = .int .i8 n2) ∧ (bb 12 → u46 = .pointer (some ⟨B1, 2, none⟩)) ∧ (bb 13 → u47 = .int .u8 d2) ∧ (bb 14 → u48 = .agg #[.int .i64 c1, .int .i64 c2]) ∧ (bb 15 → VarAt W0 ww u5 (bb 18) (.int .i64 a1) (.int .i64 a2)) ∧ (bb 16 → VarAt W0 ww u6 (bb 19) (.int .i64 b1) (.int .i64 b2)) ∧ (bb 17 → VarAt W0 ww u7 (bb 20) (.int .i64 c1) (.int .i64 c2)) ∧ (bb 18 → bb 15) ∧ (bb 19 → bb 16) ∧ (bb 20 → bb 17) ∧ (bb 15 → bb 16 → Apart u5 u6) ∧ (bb 15 → bb 17 → Apart u5 u7) ∧ (bb 16 → bb 17 → Apart u6 u7)) (by kernel_rfl) (by kernel_rfl) ?done ?start ?steps
    case done =>
      rintro bb aa ww hb ⟨u5, u6, u7, u34, u35, u36, u37, u38, u39, u40, u41, u42, u43, u44, u45, u46, u47, u48, rfl, G, f0, f1, f2, f3, f4, f5, f6, f7, f8, f9, f10, f11, f12, f13, f14, f15, f16, f17, f18, f19, f20, d15_16, d15_17, d16_17⟩
      have g0 := f0 (hb 0 (by decide))
      have g1 := f1 (hb 1 (by decide))
      have g2 := f2 (hb 2 (by decide))
      have g3 := f3 (hb 3 (by decide))
      have g4 := f4 (hb 4 (by decide))
      have g5 := f5 (hb 5 (by decide))
      have g6 := f6 (hb 6 (by decide))
      have g7 := f7 (hb 7 (by decide))
      have g8 := f8 (hb 8 (by decide))
      have g9 := f9 (hb 9 (by decide))
      have g10 := f10 (hb 10 (by decide))
      have g11 := f11 (hb 11 (by decide))
      have g12 := f12 (hb 12 (by decide))
      have g13 := f13 (hb 13 (by decide))
      have g14 := f14 (hb 14 (by decide))
      have g15 := f15 (hb 15 (by decide))
      have g16 := f16 (hb 16 (by decide))
      have g17 := f17 (hb 17 (by decide))
      obtain ⟨X15, x15, y15, rfl, hX15, ⟨hc15, hd15⟩, -, hs15⟩ := g15
      obtain ⟨rfl, rfl⟩ := hs15 (hb 18 (by decide))
      obtain ⟨X16, x16, y16, rfl, hX16, ⟨hc16, hd16⟩, -, hs16⟩ := g16
      obtain ⟨rfl, rfl⟩ := hs16 (hb 19 (by decide))
      obtain ⟨X17, x17, y17, rfl, hX17, ⟨hc17, hd17⟩, -, hs17⟩ := g17
      obtain ⟨rfl, rfl⟩ := hs17 (hb 20 (by decide))
      go_wp2_with fail
      go_meet
      case rel => exact ⟨X15, X16, X17, rfl, rfl, rfl, hc15, hd15, hc16, hd16, hc17, hd17, G⟩
    case start => exact ⟨_, _, _, _, _, _, _, _, _, _, _, _, _, _, _, _, _, _, rfl, Grown.drew (Grown.refl _), fun h => h.elim, fun h => h.elim, fun h => h.elim, fun h => h.elim, fun h => h.elim, fun h => h.elim, fun h => h.elim, fun h => h.elim, fun h => h.elim, fun h => h.elim, fun h => h.elim, fun h => h.elim, fun h => h.elim, fun h => h.elim, fun h => h.elim, fun h => h.elim, fun h => h.elim, fun h => h.elim, fun h => h.elim, fun h => h.elim, fun h => h.elim, fun h => h.elim, fun h => h.elim, fun h => h.elim⟩
    case steps =>
      refine StepsFrom.cons (k := 0) ?_ (StepsFrom.cons (k := 1) ?_ (StepsFrom.cons (k := 2) ?_ (StepsFrom.cons (k := 3) ?_ (StepsFrom.cons (k := 4) ?_ (StepsFrom.cons (k := 5) ?_ (StepsFrom.cons (k := 6) ?_ (StepsFrom.cons (k := 7) ?_ (StepsFrom.cons (k := 8) ?_ (StepsFrom.cons (k := 9) ?_ (StepsFrom.cons (k := 10) ?_ (StepsFrom.cons (k := 11) ?_ (StepsFrom.cons (k := 12) ?_ (StepsFrom.cons (k := 13) ?_ (StepsFrom.cons (k := 14) ?_ (StepsFrom.cons (k := 15) ?_ (StepsFrom.cons (k := 16) ?_ (StepsFrom.cons (k := 17) ?_ (StepsFrom.cons (k := 18) ?_ (StepsFrom.cons (k := 19) ?_ (StepsFrom.cons (k := 20) ?_ (StepsFrom.nil)))))))))))))))))))))
      · -- 0: addr
        rintro bb aa ww hn hd ⟨u5, u6, u7, u34, u35, u36, u37, u38, u39, u40, u41, u42, u43, u44, u45, u46, u47, u48, rfl, G, f0, f1, f2, f3, f4, f5, f6, f7, f8, f9, f10, f11, f12, f13, f14, f15, f16, f17, f18, f19, f20, d15_16, d15_17, d16_17⟩ K hK
        have HK := Lib.hid hK
        clear hK
        go_simp
        exact HK.out _ _ ⟨_, _, _, _, _, _, _, _, _, _, _, _, _, _, _, _, _, _, rfl, G, fun _ => rfl, up (by decide) f1, up (by decide) f2, up (by decide) f3, up (by decide) f4, up (by decide) f5, up (by decide) f6, up (by decide) f7, up (by decide) f8, up (by decide) f9, up (by decide) f10, up (by decide) f11, up (by decide) f12, up (by decide) f13, up (by decide) f14, fun h => (f15 (down (by decide) h)).step (Grown.refl _) (down (by decide)), fun h => (f16 (down (by decide) h)).step (Grown.refl _) (down (by decide)), fun h => (f17 (down (by decide) h)).step (Grown.refl _) (down (by decide)), fun h => Or.inr (f18 (down (by decide) h)), fun h => Or.inr (f19 (down (by decide) h)), fun h => Or.inr (f20 (down (by decide) h)), fun h h' => d15_16 (down (by decide) h) (down (by decide) h'), fun h h' => d15_17 (down (by decide) h) (down (by decide) h'), fun h h' => d16_17 (down (by decide) h) (down (by decide) h')⟩
      · -- 1: load
        rintro bb aa ww hn hd ⟨u5, u6, u7, u34, u35, u36, u37, u38, u39, u40, u41, u42, u43, u44, u45, u46, u47, u48, rfl, G, f0, f1, f2, f3, f4, f5, f6, f7, f8, f9, f10, f11, f12, f13, f14, f15, f16, f17, f18, f19, f20, d15_16, d15_17, d16_17⟩ K hK
        have b0 : bb 0 := hd ⟨0, .data⟩ (by simp) (by rfl)
        obtain rfl := f0 b0
        have k0 := grownSome G c00
        have HK := Lib.hid hK
        clear hK
        go_simp
        exact HK.out _ _ ⟨_, _, _, _, _, _, _, _, _, _, _, _, _, _, _, _, _, _, rfl, G, fun _ => rfl, fun _ => rfl, up (by decide) f2, up (by decide) f3, up (by decide) f4, up (by decide) f5, up (by decide) f6, up (by decide) f7, up (by decide) f8, up (by decide) f9, up (by decide) f10, up (by decide) f11, up (by decide) f12, up (by decide) f13, up (by decide) f14, fun h => (f15 (down (by decide) h)).step (Grown.refl _) (down (by decide)), fun h => (f16 (down (by decide) h)).step (Grown.refl _) (down (by decide)), fun h => (f17 (down (by decide) h)).step (Grown.refl _) (down (by decide)), fun h => Or.inr (f18 (down (by decide) h)), fun h => Or.inr (f19 (down (by decide) h)), fun h => Or.inr (f20 (down (by decide) h)), fun h h' => d15_16 (down (by decide) h) (down (by decide) h'), fun h h' => d15_17 (down (by decide) h) (down (by decide) h'), fun h h' => d16_17 (down (by decide) h) (down (by decide) h')⟩
      · -- 2: addr
        rintro bb aa ww hn hd ⟨u5, u6, u7, u34, u35, u36, u37, u38, u39, u40, u41, u42, u43, u44, u45, u46, u47, u48, rfl, G, f0, f1, f2, f3, f4, f5, f6, f7, f8, f9, f10, f11, f12, f13, f14, f15, f16, f17, f18, f19, f20, d15_16, d15_17, d16_17⟩ K hK
        have HK := Lib.hid hK
        clear hK
        go_simp
        exact HK.out _ _ ⟨_, _, _, _, _, _, _, _, _, _, _, _, _, _, _, _, _, _, rfl, G, up (by decide) f0, up (by decide) f1, fun _ => rfl, up (by decide) f3, up (by decide) f4, up (by decide) f5, up (by decide) f6, up (by decide) f7, up (by decide) f8, up (by decide) f9, up (by decide) f10, up (by decide) f11, up (by decide) f12, up (by decide) f13, up (by decide) f14, fun h => (f15 (down (by decide) h)).step (Grown.refl _) (down (by decide)), fun h => (f16 (down (by decide) h)).step (Grown.refl _) (down (by decide)), fun h => (f17 (down (by decide) h)).step (Grown.refl _) (down (by decide)), fun h => Or.inr (f18 (down (by decide) h)), fun h => Or.inr (f19 (down (by decide) h)), fun h => Or.inr (f20 (down (by decide) h)), fun h h' => d15_16 (down (by decide) h) (down (by decide) h'), fun h h' => d15_17 (down (by decide) h) (down (by decide) h'), fun h h' => d16_17 (down (by decide) h) (down (by decide) h')⟩
      · -- 3: load
        rintro bb aa ww hn hd ⟨u5, u6, u7, u34, u35, u36, u37, u38, u39, u40, u41, u42, u43, u44, u45, u46, u47, u48, rfl, G, f0, f1, f2, f3, f4, f5, f6, f7, f8, f9, f10, f11, f12, f13, f14, f15, f16, f17, f18, f19, f20, d15_16, d15_17, d16_17⟩ K hK
        have b2 : bb 2 := hd ⟨2, .data⟩ (by simp) (by rfl)
        obtain rfl := f2 b2
        have k0 := grownSome G c10
        have HK := Lib.hid hK
        clear hK
        go_simp
        exact HK.out _ _ ⟨_, _, _, _, _, _, _, _, _, _, _, _, _, _, _, _, _, _, rfl, G, up (by decide) f0, up (by decide) f1, fun _ => rfl, fun _ => rfl, up (by decide) f4, up (by decide) f5, up (by decide) f6, up (by decide) f7, up (by decide) f8, up (by decide) f9, up (by decide) f10, up (by decide) f11, up (by decide) f12, up (by decide) f13, up (by decide) f14, fun h => (f15 (down (by decide) h)).step (Grown.refl _) (down (by decide)), fun h => (f16 (down (by decide) h)).step (Grown.refl _) (down (by decide)), fun h => (f17 (down (by decide) h)).step (Grown.refl _) (down (by decide)), fun h => Or.inr (f18 (down (by decide) h)), fun h => Or.inr (f19 (down (by decide) h)), fun h => Or.inr (f20 (down (by decide) h)), fun h h' => d15_16 (down (by decide) h) (down (by decide) h'), fun h h' => d15_17 (down (by decide) h) (down (by decide) h'), fun h h' => d16_17 (down (by decide) h) (down (by decide) h')⟩
      · -- 4: call
        rintro bb aa ww hn hd ⟨u5, u6, u7, u34, u35, u36, u37, u38, u39, u40, u41, u42, u43, u44, u45, u46, u47, u48, rfl, G, f0, f1, f2, f3, f4, f5, f6, f7, f8, f9, f10, f11, f12, f13, f14, f15, f16, f17, f18, f19, f20, d15_16, d15_17, d16_17⟩ K hK
        have b1 : bb 1 := hd ⟨1, .data⟩ (by simp) (by rfl)
        obtain rfl := f1 b1
        have b3 : bb 3 := hd ⟨3, .data⟩ (by simp) (by rfl)
        obtain rfl := f3 b3
        have HK := Lib.hid hK
        clear hK
        go_wp2_with ((go_at_call_of 34 (Value.int IntKind.i8 n0)); ((with_reducible refine (S0.out _).mono ?_); rintro _ w1 ⟨rfl, hg⟩))
        exact HK.out _ _ ⟨_, _, _, _, _, _, _, _, _, _, _, _, _, _, _, _, _, _, rfl, (grownTrans G hg), up (by decide) f0, fun _ => rfl, up (by decide) f2, fun _ => rfl, fun _ => rfl, up (by decide) f5, up (by decide) f6, up (by decide) f7, up (by decide) f8, up (by decide) f9, up (by decide) f10, up (by decide) f11, up (by decide) f12, up (by decide) f13, up (by decide) f14, fun h => (f15 (down (by decide) h)).step hg (down (by decide)), fun h => (f16 (down (by decide) h)).step hg (down (by decide)), fun h => (f17 (down (by decide) h)).step hg (down (by decide)), fun h => Or.inr (f18 (down (by decide) h)), fun h => Or.inr (f19 (down (by decide) h)), fun h => Or.inr (f20 (down (by decide) h)), fun h h' => d15_16 (down (by decide) h) (down (by decide) h'), fun h h' => d15_17 (down (by decide) h) (down (by decide) h'), fun h h' => d16_17 (down (by decide) h) (down (by decide) h')⟩
      · -- 5: addr
        rintro bb aa ww hn hd ⟨u5, u6, u7, u34, u35, u36, u37, u38, u39, u40, u41, u42, u43, u44, u45, u46, u47, u48, rfl, G, f0, f1, f2, f3, f4, f5, f6, f7, f8, f9, f10, f11, f12, f13, f14, f15, f16, f17, f18, f19, f20, d15_16, d15_17, d16_17⟩ K hK
        have HK := Lib.hid hK
        clear hK
        go_simp
        exact HK.out _ _ ⟨_, _, _, _, _, _, _, _, _, _, _, _, _, _, _, _, _, _, rfl, G, up (by decide) f0, up (by decide) f1, up (by decide) f2, up (by decide) f3, up (by decide) f4, fun _ => rfl, up (by decide) f6, up (by decide) f7, up (by decide) f8, up (by decide) f9, up (by decide) f10, up (by decide) f11, up (by decide) f12, up (by decide) f13, up (by decide) f14, fun h => (f15 (down (by decide) h)).step (Grown.refl _) (down (by decide)), fun h => (f16 (down (by decide) h)).step (Grown.refl _) (down (by decide)), fun h => (f17 (down (by decide) h)).step (Grown.refl _) (down (by decide)), fun h => Or.inr (f18 (down (by decide) h)), fun h => Or.inr (f19 (down (by decide) h)), fun h => Or.inr (f20 (down (by decide) h)), fun h h' => d15_16 (down (by decide) h) (down (by decide) h'), fun h h' => d15_17 (down (by decide) h) (down (by decide) h'), fun h h' => d16_17 (down (by decide) h) (down (by decide) h')⟩
      · -- 6: load
        rintro bb aa ww hn hd ⟨u5, u6, u7, u34, u35, u36, u37, u38, u39, u40, u41, u42, u43, u44, u45, u46, u47, u48, rfl, G, f0, f1, f2, f3, f4, f5, f6, f7, f8, f9, f10, f11, f12, f13, f14, f15, f16, f17, f18, f19, f20, d15_16, d15_17, d16_17⟩ K hK
        have b5 : bb 5 := hd ⟨5, .data⟩ (by simp) (by rfl)
        obtain rfl := f5 b5
        have k0 := grownSome G c01
        have HK := Lib.hid hK
        clear hK
        go_simp
        exact HK.out _ _ ⟨_, _, _, _, _, _, _, _, _, _, _, _, _, _, _, _, _, _, rfl, G, up (by decide) f0, up (by decide) f1, up (by decide) f2, up (by decide) f3, up (by decide) f4, fun _ => rfl, fun _ => rfl, up (by decide) f7, up (by decide) f8, up (by decide) f9, up (by decide) f10, up (by decide) f11, up (by decide) f12, up (by decide) f13, up (by decide) f14, fun h => (f15 (down (by decide) h)).step (Grown.refl _) (down (by decide)), fun h => (f16 (down (by decide) h)).step (Grown.refl _) (down (by decide)), fun h => (f17 (down (by decide) h)).step (Grown.refl _) (down (by decide)), fun h => Or.inr (f18 (down (by decide) h)), fun h => Or.inr (f19 (down (by decide) h)), fun h => Or.inr (f20 (down (by decide) h)), fun h h' => d15_16 (down (by decide) h) (down (by decide) h'), fun h h' => d15_17 (down (by decide) h) (down (by decide) h'), fun h h' => d16_17 (down (by decide) h) (down (by decide) h')⟩
      · -- 7: addr
        rintro bb aa ww hn hd ⟨u5, u6, u7, u34, u35, u36, u37, u38, u39, u40, u41, u42, u43, u44, u45, u46, u47, u48, rfl, G, f0, f1, f2, f3, f4, f5, f6, f7, f8, f9, f10, f11, f12, f13, f14, f15, f16, f17, f18, f19, f20, d15_16, d15_17, d16_17⟩ K hK
        have HK := Lib.hid hK
        clear hK
        go_simp
        exact HK.out _ _ ⟨_, _, _, _, _, _, _, _, _, _, _, _, _, _, _, _, _, _, rfl, G, up (by decide) f0, up (by decide) f1, up (by decide) f2, up (by decide) f3, up (by decide) f4, up (by decide) f5, up (by decide) f6, fun _ => rfl, up (by decide) f8, up (by decide) f9, up (by decide) f10, up (by decide) f11, up (by decide) f12, up (by decide) f13, up (by decide) f14, fun h => (f15 (down (by decide) h)).step (Grown.refl _) (down (by decide)), fun h => (f16 (down (by decide) h)).step (Grown.refl _) (down (by decide)), fun h => (f17 (down (by decide) h)).step (Grown.refl _) (down (by decide)), fun h => Or.inr (f18 (down (by decide) h)), fun h => Or.inr (f19 (down (by decide) h)), fun h => Or.inr (f20 (down (by decide) h)), fun h h' => d15_16 (down (by decide) h) (down (by decide) h'), fun h h' => d15_17 (down (by decide) h) (down (by decide) h'), fun h h' => d16_17 (down (by decide) h) (down (by decide) h')⟩
      · -- 8: load
        rintro bb aa ww hn hd ⟨u5, u6, u7, u34, u35, u36, u37, u38, u39, u40, u41, u42, u43, u44, u45, u46, u47, u48, rfl, G, f0, f1, f2, f3, f4, f5, f6, f7, f8, f9, f10, f11, f12, f13, f14, f15, f16, f17, f18, f19, f20, d15_16, d15_17, d16_17⟩ K hK
        have b7 : bb 7 := hd ⟨7, .data⟩ (by simp) (by rfl)
        obtain rfl := f7 b7
        have k0 := grownSome G c11
        have HK := Lib.hid hK
        clear hK
        go_simp
        exact HK.out _ _ ⟨_, _, _, _, _, _, _, _, _, _, _, _, _, _, _, _, _, _, rfl, G, up (by decide) f0, up (by decide) f1, up (by decide) f2, up (by decide) f3, up (by decide) f4, up (by decide) f5, up (by decide) f6, fun _ => rfl, fun _ => rfl, up (by decide) f9, up (by decide) f10, up (by decide) f11, up (by decide) f12, up (by decide) f13, up (by decide) f14, fun h => (f15 (down (by decide) h)).step (Grown.refl _) (down (by decide)), fun h => (f16 (down (by decide) h)).step (Grown.refl _) (down (by decide)), fun h => (f17 (down (by decide) h)).step (Grown.refl _) (down (by decide)), fun h => Or.inr (f18 (down (by decide) h)), fun h => Or.inr (f19 (down (by decide) h)), fun h => Or.inr (f20 (down (by decide) h)), fun h h' => d15_16 (down (by decide) h) (down (by decide) h'), fun h h' => d15_17 (down (by decide) h) (down (by decide) h'), fun h h' => d16_17 (down (by decide) h) (down (by decide) h')⟩
      · -- 9: call
        rintro bb aa ww hn hd ⟨u5, u6, u7, u34, u35, u36, u37, u38, u39, u40, u41, u42, u43, u44, u45, u46, u47, u48, rfl, G, f0, f1, f2, f3, f4, f5, f6, f7, f8, f9, f10, f11, f12, f13, f14, f15, f16, f17, f18, f19, f20, d15_16, d15_17, d16_17⟩ K hK
        have b6 : bb 6 := hd ⟨6, .data⟩ (by simp) (by rfl)
        obtain rfl := f6 b6
        have b8 : bb 8 := hd ⟨8, .data⟩ (by simp) (by rfl)
        obtain rfl := f8 b8
        have HK := Lib.hid hK
        clear hK
        go_wp2_with ((go_at_call_of 34 (Value.int IntKind.i8 n1)); ((with_reducible refine (S1.out _).mono ?_); rintro _ w1 ⟨rfl, hg⟩))
        exact HK.out _ _ ⟨_, _, _, _, _, _, _, _, _, _, _, _, _, _, _, _, _, _, rfl, (grownTrans G hg), up (by decide) f0, up (by decide) f1, up (by decide) f2, up (by decide) f3, up (by decide) f4, up (by decide) f5, fun _ => rfl, up (by decide) f7, fun _ => rfl, fun _ => rfl, up (by decide) f10, up (by decide) f11, up (by decide) f12, up (by decide) f13, up (by decide) f14, fun h => (f15 (down (by decide) h)).step hg (down (by decide)), fun h => (f16 (down (by decide) h)).step hg (down (by decide)), fun h => (f17 (down (by decide) h)).step hg (down (by decide)), fun h => Or.inr (f18 (down (by decide) h)), fun h => Or.inr (f19 (down (by decide) h)), fun h => Or.inr (f20 (down (by decide) h)), fun h h' => d15_16 (down (by decide) h) (down (by decide) h'), fun h h' => d15_17 (down (by decide) h) (down (by decide) h'), fun h h' => d16_17 (down (by decide) h) (down (by decide) h')⟩
      · -- 10: addr
        rintro bb aa ww hn hd ⟨u5, u6, u7, u34, u35, u36, u37, u38, u39, u40, u41, u42, u43, u44, u45, u46, u47, u48, rfl, G, f0, f1, f2, f3, f4, f5, f6, f7, f8, f9, f10, f11, f12, f13, f14, f15, f16, f17, f18, f19, f20, d15_16, d15_17, d16_17⟩ K hK
        have HK := Lib.hid hK
        clear hK
        go_simp
        exact HK.out _ _ ⟨_, _, _, _, _, _, _, _, _, _, _, _, _, _, _, _, _, _, rfl, G, up (by decide) f0, up (by decide) f1, up (by decide) f2, up (by decide) f3, up (by decide) f4, up (by decide) f5, up (by decide) f6, up (by decide) f7, up (by decide) f8, up (by decide) f9, fun _ => rfl, up (by decide) f11, up (by decide) f12, up (by decide) f13, up (by decide) f14, fun h => (f15 (down (by decide) h)).step (Grown.refl _) (down (by decide)), fun h => (f16 (down (by decide) h)).step (Grown.refl _) (down (by decide)), fun h => (f17 (down (by decide) h)).step (Grown.refl _) (down (by decide)), fun h => Or.inr (f18 (down (by decide) h)), fun h => Or.inr (f19 (down (by decide) h)), fun h => Or.inr (f20 (down (by decide) h)), fun h h' => d15_16 (down (by decide) h) (down (by decide) h'), fun h h' => d15_17 (down (by decide) h) (down (by decide) h'), fun h h' => d16_17 (down (by decide) h) (down (by decide) h')⟩
      · -- 11: load
        rintro bb aa ww hn hd ⟨u5, u6, u7, u34, u35, u36, u37, u38, u39, u40, u41, u42, u43, u44, u45, u46, u47, u48, rfl, G, f0, f1, f2, f3, f4, f5, f6, f7, f8, f9, f10, f11, f12, f13, f14, f15, f16, f17, f18, f19, f20, d15_16, d15_17, d16_17⟩ K hK
        have b10 : bb 10 := hd ⟨10, .data⟩ (by simp) (by rfl)
        obtain rfl := f10 b10
        have k0 := grownSome G c02
        have HK := Lib.hid hK
        clear hK
        go_simp
        exact HK.out _ _ ⟨_, _, _, _, _, _, _, _, _, _, _, _, _, _, _, _, _, _, rfl, G, up (by decide) f0, up (by decide) f1, up (by decide) f2, up (by decide) f3, up (by decide) f4, up (by decide) f5, up (by decide) f6, up (by decide) f7, up (by decide) f8, up (by decide) f9, fun _ => rfl, fun _ => rfl, up (by decide) f12, up (by decide) f13, up (by decide) f14, fun h => (f15 (down (by decide) h)).step (Grown.refl _) (down (by decide)), fun h => (f16 (down (by decide) h)).step (Grown.refl _) (down (by decide)), fun h => (f17 (down (by decide) h)).step (Grown.refl _) (down (by decide)), fun h => Or.inr (f18 (down (by decide) h)), fun h => Or.inr (f19 (down (by decide) h)), fun h => Or.inr (f20 (down (by decide) h)), fun h h' => d15_16 (down (by decide) h) (down (by decide) h'), fun h h' => d15_17 (down (by decide) h) (down (by decide) h'), fun h h' => d16_17 (down (by decide) h) (down (by decide) h')⟩
      · -- 12: addr
        rintro bb aa ww hn hd ⟨u5, u6, u7, u34, u35, u36, u37, u38, u39, u40, u41, u42, u43, u44, u45, u46, u47, u48, rfl, G, f0, f1, f2, f3, f4, f5, f6, f7, f8, f9, f10, f11, f12, f13, f14, f15, f16, f17, f18, f19, f20, d15_16, d15_17, d16_17⟩ K hK
        have HK := Lib.hid hK
        clear hK
        go_simp
        exact HK.out _ _ ⟨_, _, _, _, _, _, _, _, _, _, _, _, _, _, _, _, _, _, rfl, G, up (by decide) f0, up (by decide) f1, up (by decide) f2, up (by decide) f3, up (by decide) f4, up (by decide) f5, up (by decide) f6, up (by decide) f7, up (by decide) f8, up (by decide) f9, up (by decide) f10, up (by decide) f11, fun _ => rfl, up (by decide) f13, up (by decide) f14, fun h => (f15 (down (by decide) h)).step (Grown.refl _) (down (by decide)), fun h => (f16 (down (by decide) h)).step (Grown.refl _) (down (by decide)), fun h => (f17 (down (by decide) h)).step (Grown.refl _) (down (by decide)), fun h => Or.inr (f18 (down (by decide) h)), fun h => Or.inr (f19 (down (by decide) h)), fun h => Or.inr (f20 (down (by decide) h)), fun h h' => d15_16 (down (by decide) h) (down (by decide) h'), fun h h' => d15_17 (down (by decide) h) (down (by decide) h'), fun h h' => d16_17 (down (by decide) h) (down (by decide) h')⟩
      · -- 13: load
        rintro bb aa ww hn hd ⟨u5, u6, u7, u34, u35, u36, u37, u38, u39, u40, u41, u42, u43, u44, u45, u46, u47, u48, rfl, G, f0, f1, f2, f3, f4, f5, f6, f7, f8, f9, f10, f11, f12, f13, f14, f15, f16, f17, f18, f19, f20, d15_16, d15_17, d16_17⟩ K hK
        have b12 : bb 12 := hd ⟨12, .data⟩ (by simp) (by rfl)
        obtain rfl := f12 b12
        have k0 := grownSome G c12
        have HK := Lib.hid hK
        clear hK
        go_simp
        exact HK.out _ _ ⟨_, _, _, _, _, _, _, _, _, _, _, _, _, _, _, _, _, _, rfl, G, up (by decide) f0, up (by decide) f1, up (by decide) f2, up (by decide) f3, up (by decide) f4, up (by decide) f5, up (by decide) f6, up (by decide) f7, up (by decide) f8, up (by decide) f9, up (by decide) f10, up (by decide) f11, fun _ => rfl, fun _ => rfl, up (by decide) f14, fun h => (f15 (down (by decide) h)).step (Grown.refl _) (down (by decide)), fun h => (f16 (down (by decide) h)).step (Grown.refl _) (down (by decide)), fun h => (f17 (down (by decide) h)).step (Grown.refl _) (down (by decide)), fun h => Or.inr (f18 (down (by decide) h)), fun h => Or.inr (f19 (down (by decide) h)), fun h => Or.inr (f20 (down (by decide) h)), fun h h' => d15_16 (down (by decide) h) (down (by decide) h'), fun h h' => d15_17 (down (by decide) h) (down (by decide) h'), fun h h' => d16_17 (down (by decide) h) (down (by decide) h')⟩
      · -- 14: call
        rintro bb aa ww hn hd ⟨u5, u6, u7, u34, u35, u36, u37, u38, u39, u40, u41, u42, u43, u44, u45, u46, u47, u48, rfl, G, f0, f1, f2, f3, f4, f5, f6, f7, f8, f9, f10, f11, f12, f13, f14, f15, f16, f17, f18, f19, f20, d15_16, d15_17, d16_17⟩ K hK
        have b11 : bb 11 := hd ⟨11, .data⟩ (by simp) (by rfl)
        obtain rfl := f11 b11
        have b13 : bb 13 := hd ⟨13, .data⟩ (by simp) (by rfl)
        obtain rfl := f13 b13
        have HK := Lib.hid hK
        clear hK
        go_wp2_with ((go_at_call_of 34 (Value.int IntKind.i8 n2)); ((with_reducible refine (S2.out _).mono ?_); rintro _ w1 ⟨rfl, hg⟩))
        exact HK.out _ _ ⟨_, _, _, _, _, _, _, _, _, _, _, _, _, _, _, _, _, _, rfl, (grownTrans G hg), up (by decide) f0, up (by decide) f1, up (by decide) f2, up (by decide) f3, up (by decide) f4, up (by decide) f5, up (by decide) f6, up (by decide) f7, up (by decide) f8, up (by decide) f9, up (by decide) f10, fun _ => rfl, up (by decide) f12, fun _ => rfl, fun _ => rfl, fun h => (f15 (down (by decide) h)).step hg (down (by decide)), fun h => (f16 (down (by decide) h)).step hg (down (by decide)), fun h => (f17 (down (by decide) h)).step hg (down (by decide)), fun h => Or.inr (f18 (down (by decide) h)), fun h => Or.inr (f19 (down (by decide) h)), fun h => Or.inr (f20 (down (by decide) h)), fun h h' => d15_16 (down (by decide) h) (down (by decide) h'), fun h h' => d15_17 (down (by decide) h) (down (by decide) h'), fun h h' => d16_17 (down (by decide) h) (down (by decide) h')⟩
      · -- 15: alloc
        rintro bb aa ww hn hd ⟨u5, u6, u7, u34, u35, u36, u37, u38, u39, u40, u41, u42, u43, u44, u45, u46, u47, u48, rfl, G, f0, f1, f2, f3, f4, f5, f6, f7, f8, f9, f10, f11, f12, f13, f14, f15, f16, f17, f18, f19, f20, d15_16, d15_17, d16_17⟩ K hK
        have HK := Lib.hid hK
        clear hK
        go_simp
        exact HK.out _ _ ⟨_, _, _, _, _, _, _, _, _, _, _, _, _, _, _, _, _, _, rfl, (Grown.alloc G _ _), up (by decide) f0, up (by decide) f1, up (by decide) f2, up (by decide) f3, up (by decide) f4, up (by decide) f5, up (by decide) f6, up (by decide) f7, up (by decide) f8, up (by decide) f9, up (by decide) f10, up (by decide) f11, up (by decide) f12, up (by decide) f13, up (by decide) f14, fun _ => VarAt.new G (fun h => hn (f18 (h.resolve_left (by decide)))), fun h => (f16 (down (by decide) h)).step (Grown.alloc (Grown.refl _) _ _) (down (by decide)), fun h => (f17 (down (by decide) h)).step (Grown.alloc (Grown.refl _) _ _) (down (by decide)), fun _ => Or.inl rfl, fun h => Or.inr (f19 (down (by decide) h)), fun h => Or.inr (f20 (down (by decide) h)), fun _ h => (f16 (down (by decide) h)).apartNew.symm, fun _ h => (f17 (down (by decide) h)).apartNew.symm, fun h h' => d16_17 (down (by decide) h) (down (by decide) h')⟩
      · -- 16: alloc
        rintro bb aa ww hn hd ⟨u5, u6, u7, u34, u35, u36, u37, u38, u39, u40, u41, u42, u43, u44, u45, u46, u47, u48, rfl, G, f0, f1, f2, f3, f4, f5, f6, f7, f8, f9, f10, f11, f12, f13, f14, f15, f16, f17, f18, f19, f20, d15_16, d15_17, d16_17⟩ K hK
        have HK := Lib.hid hK
        clear hK
        go_simp
        exact HK.out _ _ ⟨_, _, _, _, _, _, _, _, _, _, _, _, _, _, _, _, _, _, rfl, (Grown.alloc G _ _), up (by decide) f0, up (by decide) f1, up (by decide) f2, up (by decide) f3, up (by decide) f4, up (by decide) f5, up (by decide) f6, up (by decide) f7, up (by decide) f8, up (by decide) f9, up (by decide) f10, up (by decide) f11, up (by decide) f12, up (by decide) f13, up (by decide) f14, fun h => (f15 (down (by decide) h)).step (Grown.alloc (Grown.refl _) _ _) (down (by decide)), fun _ => VarAt.new G (fun h => hn (f19 (h.resolve_left (by decide)))), fun h => (f17 (down (by decide) h)).step (Grown.alloc (Grown.refl _) _ _) (down (by decide)), fun h => Or.inr (f18 (down (by decide) h)), fun _ => Or.inl rfl, fun h => Or.inr (f20 (down (by decide) h)), fun h _ => (f15 (down (by decide) h)).apartNew, fun h h' => d15_17 (down (by decide) h) (down (by decide) h'), fun _ h => (f17 (down (by decide) h)).apartNew.symm⟩
      · -- 17: alloc
        rintro bb aa ww hn hd ⟨u5, u6, u7, u34, u35, u36, u37, u38, u39, u40, u41, u42, u43, u44, u45, u46, u47, u48, rfl, G, f0, f1, f2, f3, f4, f5, f6, f7, f8, f9, f10, f11, f12, f13, f14, f15, f16, f17, f18, f19, f20, d15_16, d15_17, d16_17⟩ K hK
        have HK := Lib.hid hK
        clear hK
        go_simp
        exact HK.out _ _ ⟨_, _, _, _, _, _, _, _, _, _, _, _, _, _, _, _, _, _, rfl, (Grown.alloc G _ _), up (by decide) f0, up (by decide) f1, up (by decide) f2, up (by decide) f3, up (by decide) f4, up (by decide) f5, up (by decide) f6, up (by decide) f7, up (by decide) f8, up (by decide) f9, up (by decide) f10, up (by decide) f11, up (by decide) f12, up (by decide) f13, up (by decide) f14, fun h => (f15 (down (by decide) h)).step (Grown.alloc (Grown.refl _) _ _) (down (by decide)), fun h => (f16 (down (by decide) h)).step (Grown.alloc (Grown.refl _) _ _) (down (by decide)), fun _ => VarAt.new G (fun h => hn (f20 (h.resolve_left (by decide)))), fun h => Or.inr (f18 (down (by decide) h)), fun h => Or.inr (f19 (down (by decide) h)), fun _ => Or.inl rfl, fun h h' => d15_16 (down (by decide) h) (down (by decide) h'), fun h _ => (f15 (down (by decide) h)).apartNew, fun h _ => (f16 (down (by decide) h)).apartNew⟩
      · -- 18: store
        rintro bb aa ww hn hd ⟨u5, u6, u7, u34, u35, u36, u37, u38, u39, u40, u41, u42, u43, u44, u45, u46, u47, u48, rfl, G, f0, f1, f2, f3, f4, f5, f6, f7, f8, f9, f10, f11, f12, f13, f14, f15, f16, f17, f18, f19, f20, d15_16, d15_17, d16_17⟩ K hK
        have b15 : bb 15 := hd ⟨15, .data⟩ (by simp) (by rfl)
        have b4 : bb 4 := hd ⟨4, .data⟩ (by simp) (by rfl)
        obtain rfl := f4 b4
        obtain ⟨X, c0, c1, rfl, hX, ⟨hc0, hc1⟩, ⟨hf0, hf1⟩, -⟩ := f15 b15
        have HK := Lib.hid hK
        clear hK
        go_simp
        exact HK.out _ _ ⟨_, _, _, _, _, _, _, _, _, _, _, _, _, _, _, _, _, _, rfl, ((G.setCell hX _).setCell hX _), up (by decide) f0, up (by decide) f1, up (by decide) f2, up (by decide) f3, fun _ => rfl, up (by decide) f5, up (by decide) f6, up (by decide) f7, up (by decide) f8, up (by decide) f9, up (by decide) f10, up (by decide) f11, up (by decide) f12, up (by decide) f13, up (by decide) f14, fun _ => VarAt.here hX hc0 hc1 hf0 hf1, fun h => (f16 (down (by decide) h)).other ((d15_16 b15 (down (by decide) h)).symm) (down (by decide)), fun h => (f17 (down (by decide) h)).other ((d15_17 b15 (down (by decide) h)).symm) (down (by decide)), fun _ => Or.inr b15, fun h => Or.inr (f19 (down (by decide) h)), fun h => Or.inr (f20 (down (by decide) h)), fun h h' => d15_16 (down (by decide) h) (down (by decide) h'), fun h h' => d15_17 (down (by decide) h) (down (by decide) h'), fun h h' => d16_17 (down (by decide) h) (down (by decide) h')⟩
      · -- 19: store
        rintro bb aa ww hn hd ⟨u5, u6, u7, u34, u35, u36, u37, u38, u39, u40, u41, u42, u43, u44, u45, u46, u47, u48, rfl, G, f0, f1, f2, f3, f4, f5, f6, f7, f8, f9, f10, f11, f12, f13, f14, f15, f16, f17, f18, f19, f20, d15_16, d15_17, d16_17⟩ K hK
        have b16 : bb 16 := hd ⟨16, .data⟩ (by simp) (by rfl)
        have b9 : bb 9 := hd ⟨9, .data⟩ (by simp) (by rfl)
        obtain rfl := f9 b9
        obtain ⟨X, c0, c1, rfl, hX, ⟨hc0, hc1⟩, ⟨hf0, hf1⟩, -⟩ := f16 b16
        have HK := Lib.hid hK
        clear hK
        go_simp
        exact HK.out _ _ ⟨_, _, _, _, _, _, _, _, _, _, _, _, _, _, _, _, _, _, rfl, ((G.setCell hX _).setCell hX _), up (by decide) f0, up (by decide) f1, up (by decide) f2, up (by decide) f3, up (by decide) f4, up (by decide) f5, up (by decide) f6, up (by decide) f7, up (by decide) f8, fun _ => rfl, up (by decide) f10, up (by decide) f11, up (by decide) f12, up (by decide) f13, up (by decide) f14, fun h => (f15 (down (by decide) h)).other (d15_16 (down (by decide) h) b16) (down (by decide)), fun _ => VarAt.here hX hc0 hc1 hf0 hf1, fun h => (f17 (down (by decide) h)).other ((d16_17 b16 (down (by decide) h)).symm) (down (by decide)), fun h => Or.inr (f18 (down (by decide) h)), fun _ => Or.inr b16, fun h => Or.inr (f20 (down (by decide) h)), fun h h' => d15_16 (down (by decide) h) (down (by decide) h'), fun h h' => d15_17 (down (by decide) h) (down (by decide) h'), fun h h' => d16_17 (down (by decide) h) (down (by decide) h')⟩
      · -- 20: store
        rintro bb aa ww hn hd ⟨u5, u6, u7, u34, u35, u36, u37, u38, u39, u40, u41, u42, u43, u44, u45, u46, u47, u48, rfl, G, f0, f1, f2, f3, f4, f5, f6, f7, f8, f9, f10, f11, f12, f13, f14, f15, f16, f17, f18, f19, f20, d15_16, d15_17, d16_17⟩ K hK
        have b17 : bb 17 := hd ⟨17, .data⟩ (by simp) (by rfl)
        have b14 : bb 14 := hd ⟨14, .data⟩ (by simp) (by rfl)
        obtain rfl := f14 b14
        obtain ⟨X, c0, c1, rfl, hX, ⟨hc0, hc1⟩, ⟨hf0, hf1⟩, -⟩ := f17 b17
        have HK := Lib.hid hK
        clear hK
        go_simp
        exact HK.out _ _ ⟨_, _, _, _, _, _, _, _, _, _, _, _, _, _, _, _, _, _, rfl, ((G.setCell hX _).setCell hX _), up (by decide) f0, up (by decide) f1, up (by decide) f2, up (by decide) f3, up (by decide) f4, up (by decide) f5, up (by decide) f6, up (by decide) f7, up (by decide) f8, up (by decide) f9, up (by decide) f10, up (by decide) f11, up (by decide) f12, up (by decide) f13, fun _ => rfl, fun h => (f15 (down (by decide) h)).other (d15_17 (down (by decide) h) b17) (down (by decide)), fun h => (f16 (down (by decide) h)).other (d16_17 (down (by decide) h) b17) (down (by decide)), fun _ => VarAt.here hX hc0 hc1 hf0 hf1, fun h => Or.inr (f18 (down (by decide) h)), fun h => Or.inr (f19 (down (by decide) h)), fun _ => Or.inr b17, fun h h' => d15_16 (down (by decide) h) (down (by decide) h'), fun h h' => d15_17 (down (by decide) h) (down (by decide) h'), fun h h' => d16_17 (down (by decide) h) (down (by decide) h')⟩
  case rest =>
  obtain ⟨B5, B6, B7, rfl, rfl, rfl, c5_0_0, c5_1_0, c6_0_0, c6_1_0, c7_0_0, c7_1_0, GX⟩ := hcut
  have G0 : Hid (Grown w wc) := Lib.hid (grownTrans GW.out GX)
  clear c00 c01 c02 c10 c11 c12 GW GX
  have HT0 : Hid (Tab wc) := Lib.hid (HT.out.grown G0.out)
  go_wp2_with fail
  go_at_call 16
  refine (add_is a1 a2 b1 b2 (s1, s2, 0) E1.out _ HT0.out).mono ?_
  rintro _ w1 ⟨rfl, hg1⟩
  have G1 : Hid (Grown w w1) := Lib.hid (grownTrans G0.out hg1)
  have K1 := Lib.hid hg1
  have c5_0_1 := grownSome K1.out c5_0_0
  have c5_1_1 := grownSome K1.out c5_1_0
  have c6_0_1 := grownSome K1.out c6_0_0
  have c6_1_1 := grownSome K1.out c6_1_0
  have c7_0_1 := grownSome K1.out c7_0_0
  have c7_1_1 := grownSome K1.out c7_1_0
  clear c5_0_0 c5_1_0 c6_0_0 c6_1_0 c7_0_0 c7_1_0
  clear hg1 K1
  have HT1 : Hid (Tab w1) := Lib.hid (HT.out.grown G1.out)
  have m5_8 : B5 < w1.heap.size := cellBlock c5_0_1
  have l5_8 : ¬ B5 = w1.heap.size := blkNe c5_0_1
  have l8_5 : ¬ w1.heap.size = B5 := fun h => l5_8 h.symm
  have m6_8 : B6 < w1.heap.size := cellBlock c6_0_1
  have l6_8 : ¬ B6 = w1.heap.size := blkNe c6_0_1
  have l8_6 : ¬ w1.heap.size = B6 := fun h => l6_8 h.symm
  have m7_8 : B7 < w1.heap.size := cellBlock c7_0_1
  have l7_8 : ¬ B7 = w1.heap.size := blkNe c7_0_1
  have l8_7 : ¬ w1.heap.size = B7 := fun h => l7_8 h.symm
  go_wp2_with fail
  go_at_call 16
  refine (add_is b1 b2 a1 a2 (s1, s2, 0) E2.out _ (HT.out.grown (Grown.alloc G1.out _ _))).mono ?_
  rintro _ w2 ⟨rfl, hg2⟩
  obtain ⟨G2, c8_0_2, c8_1_2, K2⟩ := fracKeep G1.out hg2
  have c5_0_2 := grownSome K2.out c5_0_1
  have c5_1_2 := grownSome K2.out c5_1_1
  have c6_0_2 := grownSome K2.out c6_0_1
  have c6_1_2 := grownSome K2.out c6_1_1
  have c7_0_2 := grownSome K2.out c7_0_1
  have c7_1_2 := grownSome K2.out c7_1_1
  clear c5_0_1 c5_1_1 c6_0_1 c6_1_1 c7_0_1 c7_1_1
  clear hg2 K2
  clear HT1
  have HT2 : Hid (Tab w2) := Lib.hid (HT.out.grown G2.out)
  generalize w1.heap.size = B8 at *
  have m5_10 : B5 < w2.heap.size := cellBlock c5_0_2
  have l5_10 : ¬ B5 = w2.heap.size := blkNe c5_0_2
  have l10_5 : ¬ w2.heap.size = B5 := fun h => l5_10 h.symm
  have m6_10 : B6 < w2.heap.size := cellBlock c6_0_2
  have l6_10 : ¬ B6 = w2.heap.size := blkNe c6_0_2
  have l10_6 : ¬ w2.heap.size = B6 := fun h => l6_10 h.symm
  have m7_10 : B7 < w2.heap.size := cellBlock c7_0_2
  have l7_10 : ¬ B7 = w2.heap.size := blkNe c7_0_2
  have l10_7 : ¬ w2.heap.size = B7 := fun h => l7_10 h.symm
  have m8_10 : B8 < w2.heap.size := cellBlock c8_0_2
  have l8_10 : ¬ B8 = w2.heap.size := blkNe c8_0_2
  have l10_8 : ¬ w2.heap.size = B8 := fun h => l8_10 h.symm
  go_wp2_with fail
  go_at_call 16
  refine (add_is s1 s2 c1 c2 (l1, l2, 0) E3.out _ (HT.out.grown (Grown.alloc G2.out _ _))).mono ?_
  rintro _ w3 ⟨rfl, hg3⟩
  obtain ⟨G3, c10_0_3, c10_1_3, K3⟩ := fracKeep G2.out hg3
  have c5_0_3 := grownSome K3.out c5_0_2
  have c5_1_3 := grownSome K3.out c5_1_2
  have c6_0_3 := grownSome K3.out c6_0_2
  have c6_1_3 := grownSome K3.out c6_1_2
  have c7_0_3 := grownSome K3.out c7_0_2
  have c7_1_3 := grownSome K3.out c7_1_2
  have c8_0_3 := grownSome K3.out c8_0_2
  have c8_1_3 := grownSome K3.out c8_1_2
  clear c5_0_2 c5_1_2 c6_0_2 c6_1_2 c7_0_2 c7_1_2 c8_0_2 c8_1_2
  clear hg3 K3
  clear HT2
  have HT3 : Hid (Tab w3) := Lib.hid (HT.out.grown G3.out)
  generalize w2.heap.size = B10 at *
  have m5_12 : B5 < w3.heap.size := cellBlock c5_0_3
  have l5_12 : ¬ B5 = w3.heap.size := blkNe c5_0_3
  have l12_5 : ¬ w3.heap.size = B5 := fun h => l5_12 h.symm
  have m6_12 : B6 < w3.heap.size := cellBlock c6_0_3
  have l6_12 : ¬ B6 = w3.heap.size := blkNe c6_0_3
  have l12_6 : ¬ w3.heap.size = B6 := fun h => l6_12 h.symm
  have m7_12 : B7 < w3.heap.size := cellBlock c7_0_3
  have l7_12 : ¬ B7 = w3.heap.size := blkNe c7_0_3
  have l12_7 : ¬ w3.heap.size = B7 := fun h => l7_12 h.symm
  have m8_12 : B8 < w3.heap.size := cellBlock c8_0_3
  have l8_12 : ¬ B8 = w3.heap.size := blkNe c8_0_3
  have l12_8 : ¬ w3.heap.size = B8 := fun h => l8_12 h.symm
  have m10_12 : B10 < w3.heap.size := cellBlock c10_0_3
  have l10_12 : ¬ B10 = w3.heap.size := blkNe c10_0_3
  have l12_10 : ¬ w3.heap.size = B10 := fun h => l10_12 h.symm
  go_wp2_with fail
  go_at_call 16
  refine (add_is b1 b2 c1 c2 (t1, t2, 0) E4.out _ (HT.out.grown (Grown.alloc G3.out _ _))).mono ?_
  rintro _ w4 ⟨rfl, hg4⟩
  obtain ⟨G4, c12_0_4, c12_1_4, K4⟩ := fracKeep G3.out hg4
  have c5_0_4 := grownSome K4.out c5_0_3
  have c5_1_4 := grownSome K4.out c5_1_3
  have c6_0_4 := grownSome K4.out c6_0_3
  have c6_1_4 := grownSome K4.out c6_1_3
  have c7_0_4 := grownSome K4.out c7_0_3
  have c7_1_4 := grownSome K4.out c7_1_3
  have c8_0_4 := grownSome K4.out c8_0_3
  have c8_1_4 := grownSome K4.out c8_1_3
  have c10_0_4 := grownSome K4.out c10_0_3
  have c10_1_4 := grownSome K4.out c10_1_3
  clear c5_0_3 c5_1_3 c6_0_3 c6_1_3 c7_0_3 c7_1_3 c8_0_3 c8_1_3 c10_0_3 c10_1_3
  clear hg4 K4
  clear HT3
  have HT4 : Hid (Tab w4) := Lib.hid (HT.out.grown G4.out)
  generalize w3.heap.size = B12 at *
  have m5_14 : B5 < w4.heap.size := cellBlock c5_0_4
  have l5_14 : ¬ B5 = w4.heap.size := blkNe c5_0_4
  have l14_5 : ¬ w4.heap.size = B5 := fun h => l5_14 h.symm
  have m6_14 : B6 < w4.heap.size := cellBlock c6_0_4
  have l6_14 : ¬ B6 = w4.heap.size := blkNe c6_0_4
  have l14_6 : ¬ w4.heap.size = B6 := fun h => l6_14 h.symm
  have m7_14 : B7 < w4.heap.size := cellBlock c7_0_4
  have l7_14 : ¬ B7 = w4.heap.size := blkNe c7_0_4
  have l14_7 : ¬ w4.heap.size = B7 := fun h => l7_14 h.symm
  have m8_14 : B8 < w4.heap.size := cellBlock c8_0_4
  have l8_14 : ¬ B8 = w4.heap.size := blkNe c8_0_4
  have l14_8 : ¬ w4.heap.size = B8 := fun h => l8_14 h.symm
  have m10_14 : B10 < w4.heap.size := cellBlock c10_0_4
  have l10_14 : ¬ B10 = w4.heap.size := blkNe c10_0_4
  have l14_10 : ¬ w4.heap.size = B10 := fun h => l10_14 h.symm
  have m12_14 : B12 < w4.heap.size := cellBlock c12_0_4
  have l12_14 : ¬ B12 = w4.heap.size := blkNe c12_0_4
  have l14_12 : ¬ w4.heap.size = B12 := fun h => l12_14 h.symm
  go_wp2_with fail
  go_at_call 16
  refine (add_is a1 a2 t1 t2 (l1, l2, 0) E5.out _ (HT.out.grown (Grown.alloc G4.out _ _))).mono ?_
  rintro _ w5 ⟨rfl, hg5⟩
  obtain ⟨G5, c14_0_5, c14_1_5, K5⟩ := fracKeep G4.out hg5
  have c5_0_5 := grownSome K5.out c5_0_4
  have c5_1_5 := grownSome K5.out c5_1_4
  have c6_0_5 := grownSome K5.out c6_0_4
  have c6_1_5 := grownSome K5.out c6_1_4
  have c7_0_5 := grownSome K5.out c7_0_4
  have c7_1_5 := grownSome K5.out c7_1_4
  have c8_0_5 := grownSome K5.out c8_0_4
  have c8_1_5 := grownSome K5.out c8_1_4
  have c10_0_5 := grownSome K5.out c10_0_4
  have c10_1_5 := grownSome K5.out c10_1_4
  have c12_0_5 := grownSome K5.out c12_0_4
  have c12_1_5 := grownSome K5.out c12_1_4
  clear c5_0_4 c5_1_4 c6_0_4 c6_1_4 c7_0_4 c7_1_4 c8_0_4 c8_1_4 c10_0_4 c10_1_4 c12_0_4 c12_1_4
  clear hg5 K5
  clear HT4
  have HT5 : Hid (Tab w5) := Lib.hid (HT.out.grown G5.out)
  generalize w4.heap.size = B14 at *
  have m5_16 : B5 < w5.heap.size := cellBlock c5_0_5
  have l5_16 : ¬ B5 = w5.heap.size := blkNe c5_0_5
  have l16_5 : ¬ w5.heap.size = B5 := fun h => l5_16 h.symm
  have m6_16 : B6 < w5.heap.size := cellBlock c6_0_5
  have l6_16 : ¬ B6 = w5.heap.size := blkNe c6_0_5
  have l16_6 : ¬ w5.heap.size = B6 := fun h => l6_16 h.symm
  have m7_16 : B7 < w5.heap.size := cellBlock c7_0_5
  have l7_16 : ¬ B7 = w5.heap.size := blkNe c7_0_5
  have l16_7 : ¬ w5.heap.size = B7 := fun h => l7_16 h.symm
  have m8_16 : B8 < w5.heap.size := cellBlock c8_0_5
  have l8_16 : ¬ B8 = w5.heap.size := blkNe c8_0_5
  have l16_8 : ¬ w5.heap.size = B8 := fun h => l8_16 h.symm
  have m10_16 : B10 < w5.heap.size := cellBlock c10_0_5
  have l10_16 : ¬ B10 = w5.heap.size := blkNe c10_0_5
  have l16_10 : ¬ w5.heap.size = B10 := fun h => l10_16 h.symm
  have m12_16 : B12 < w5.heap.size := cellBlock c12_0_5
  have l12_16 : ¬ B12 = w5.heap.size := blkNe c12_0_5
  have l16_12 : ¬ w5.heap.size = B12 := fun h => l12_16 h.symm
  have m14_16 : B14 < w5.heap.size := cellBlock c14_0_5
  have l14_16 : ¬ B14 = w5.heap.size := blkNe c14_0_5
  have l16_14 : ¬ w5.heap.size = B14 := fun h => l14_16 h.symm
  clear c14_0_5 c14_1_5
  go_wp2_with fail
  go_at_call 18
  refine (sub_is s1 s2 b1 b2 (a1, a2, 0) E6.out _ (HT.out.grown (Grown.alloc G5.out _ _))).mono ?_
  rintro _ w6 ⟨rfl, hg6⟩
  obtain ⟨G6, c16_0_6, c16_1_6, K6⟩ := fracKeep G5.out hg6
  have c5_0_6 := grownSome K6.out c5_0_5
  have c5_1_6 := grownSome K6.out c5_1_5
  have c6_0_6 := grownSome K6.out c6_0_5
  have c6_1_6 := grownSome K6.out c6_1_5
  have c7_0_6 := grownSome K6.out c7_0_5
  have c7_1_6 := grownSome K6.out c7_1_5
  have c8_0_6 := grownSome K6.out c8_0_5
  have c8_1_6 := grownSome K6.out c8_1_5
  have c10_0_6 := grownSome K6.out c10_0_5
  have c10_1_6 := grownSome K6.out c10_1_5
  have c12_0_6 := grownSome K6.out c12_0_5
  have c12_1_6 := grownSome K6.out c12_1_5
  clear c5_0_5 c5_1_5 c6_0_5 c6_1_5 c7_0_5 c7_1_5 c8_0_5 c8_1_5 c10_0_5 c10_1_5 c12_0_5 c12_1_5
  clear hg6 K6
  clear HT5
  have HT6 : Hid (Tab w6) := Lib.hid (HT.out.grown G6.out)
  generalize w5.heap.size = B16 at *
  have m5_18 : B5 < w6.heap.size := cellBlock c5_0_6
  have l5_18 : ¬ B5 = w6.heap.size := blkNe c5_0_6
  have l18_5 : ¬ w6.heap.size = B5 := fun h => l5_18 h.symm
  have m6_18 : B6 < w6.heap.size := cellBlock c6_0_6
  have l6_18 : ¬ B6 = w6.heap.size := blkNe c6_0_6
  have l18_6 : ¬ w6.heap.size = B6 := fun h => l6_18 h.symm
  have m7_18 : B7 < w6.heap.size := cellBlock c7_0_6
  have l7_18 : ¬ B7 = w6.heap.size := blkNe c7_0_6
  have l18_7 : ¬ w6.heap.size = B7 := fun h => l7_18 h.symm
  have m8_18 : B8 < w6.heap.size := cellBlock c8_0_6
  have l8_18 : ¬ B8 = w6.heap.size := blkNe c8_0_6
  have l18_8 : ¬ w6.heap.size = B8 := fun h => l8_18 h.symm
  have m10_18 : B10 < w6.heap.size := cellBlock c10_0_6
  have l10_18 : ¬ B10 = w6.heap.size := blkNe c10_0_6
  have l18_10 : ¬ w6.heap.size = B10 := fun h => l10_18 h.symm
  have m12_18 : B12 < w6.heap.size := cellBlock c12_0_6
  have l12_18 : ¬ B12 = w6.heap.size := blkNe c12_0_6
  have l18_12 : ¬ w6.heap.size = B12 := fun h => l12_18 h.symm
  have m16_18 : B16 < w6.heap.size := cellBlock c16_0_6
  have l16_18 : ¬ B16 = w6.heap.size := blkNe c16_0_6
  have l18_16 : ¬ w6.heap.size = B16 := fun h => l16_18 h.symm
  go_wp2_with fail
  go_at_call 12
  refine (check_is' l1 l2 0 E7.out _ (HT.out.grown (Grown.alloc G6.out _ _))).mono ?_
  rintro _ w7 ⟨rfl, hg7⟩
  obtain ⟨G7, c18_0_7, c18_1_7, K7⟩ := fracKeep G6.out hg7
  have c5_0_7 := grownSome K7.out c5_0_6
  have c5_1_7 := grownSome K7.out c5_1_6
  have c6_0_7 := grownSome K7.out c6_0_6
  have c6_1_7 := grownSome K7.out c6_1_6
  have c7_0_7 := grownSome K7.out c7_0_6
  have c7_1_7 := grownSome K7.out c7_1_6
  have c8_0_7 := grownSome K7.out c8_0_6
  have c8_1_7 := grownSome K7.out c8_1_6
  have c10_0_7 := grownSome K7.out c10_0_6
  have c10_1_7 := grownSome K7.out c10_1_6
  have c12_0_7 := grownSome K7.out c12_0_6
  have c12_1_7 := grownSome K7.out c12_1_6
  have c16_0_7 := grownSome K7.out c16_0_6
  have c16_1_7 := grownSome K7.out c16_1_6
  clear c5_0_6 c5_1_6 c6_0_6 c6_1_6 c7_0_6 c7_1_6 c8_0_6 c8_1_6 c10_0_6 c10_1_6 c12_0_6 c12_1_6 c16_0_6 c16_1_6
  clear hg7 K7
  clear HT6
  have HT7 : Hid (Tab w7) := Lib.hid (HT.out.grown G7.out)
  generalize w6.heap.size = B18 at *
  clear c10_0_7 c10_1_7
  clear c12_0_7 c12_1_7
  clear c16_0_7 c16_1_7
  clear c18_0_7 c18_1_7
  go_wp2_with fail
  go_at_call 20
  refine (mul_is a1 a2 b1 b2 (x1, x2, 0) F1.out _ HT7.out).mono ?_
  rintro _ w8 ⟨rfl, hg8⟩
  have G8 : Hid (Grown w w8) := Lib.hid (grownTrans G7.out hg8)
  have K8 := Lib.hid hg8
  have c5_0_8 := grownSome K8.out c5_0_7
  have c5_1_8 := grownSome K8.out c5_1_7
  have c6_0_8 := grownSome K8.out c6_0_7
  have c6_1_8 := grownSome K8.out c6_1_7
  have c7_0_8 := grownSome K8.out c7_0_7
  have c7_1_8 := grownSome K8.out c7_1_7
  have c8_0_8 := grownSome K8.out c8_0_7
  have c8_1_8 := grownSome K8.out c8_1_7
  clear c5_0_7 c5_1_7 c6_0_7 c6_1_7 c7_0_7 c7_1_7 c8_0_7 c8_1_7
  clear hg8 K8
  clear HT7
  have HT8 : Hid (Tab w8) := Lib.hid (HT.out.grown G8.out)
  have m5_20 : B5 < w8.heap.size := cellBlock c5_0_8
  have l5_20 : ¬ B5 = w8.heap.size := blkNe c5_0_8
  have l20_5 : ¬ w8.heap.size = B5 := fun h => l5_20 h.symm
  have m6_20 : B6 < w8.heap.size := cellBlock c6_0_8
  have l6_20 : ¬ B6 = w8.heap.size := blkNe c6_0_8
  have l20_6 : ¬ w8.heap.size = B6 := fun h => l6_20 h.symm
  have m7_20 : B7 < w8.heap.size := cellBlock c7_0_8
  have l7_20 : ¬ B7 = w8.heap.size := blkNe c7_0_8
  have l20_7 : ¬ w8.heap.size = B7 := fun h => l7_20 h.symm
  have m8_20 : B8 < w8.heap.size := cellBlock c8_0_8
  have l8_20 : ¬ B8 = w8.heap.size := blkNe c8_0_8
  have l20_8 : ¬ w8.heap.size = B8 := fun h => l8_20 h.symm
  go_wp2_with fail
  go_at_call 20
  refine (mul_is b1 b2 a1 a2 (x1, x2, 0) F2.out _ (HT.out.grown (Grown.alloc G8.out _ _))).mono ?_
  rintro _ w9 ⟨rfl, hg9⟩
  obtain ⟨G9, c20_0_9, c20_1_9, K9⟩ := fracKeep G8.out hg9
  have c5_0_9 := grownSome K9.out c5_0_8
  have c5_1_9 := grownSome K9.out c5_1_8
  have c6_0_9 := grownSome K9.out c6_0_8
  have c6_1_9 := grownSome K9.out c6_1_8
  have c7_0_9 := grownSome K9.out c7_0_8
  have c7_1_9 := grownSome K9.out c7_1_8
  have c8_0_9 := grownSome K9.out c8_0_8
  have c8_1_9 := grownSome K9.out c8_1_8
  clear c5_0_8 c5_1_8 c6_0_8 c6_1_8 c7_0_8 c7_1_8 c8_0_8 c8_1_8
  clear hg9 K9
  clear HT8
  have HT9 : Hid (Tab w9) := Lib.hid (HT.out.grown G9.out)
  generalize w8.heap.size = B20 at *
  have m5_21 : B5 < w9.heap.size := cellBlock c5_0_9
  have l5_21 : ¬ B5 = w9.heap.size := blkNe c5_0_9
  have l21_5 : ¬ w9.heap.size = B5 := fun h => l5_21 h.symm
  have m6_21 : B6 < w9.heap.size := cellBlock c6_0_9
  have l6_21 : ¬ B6 = w9.heap.size := blkNe c6_0_9
  have l21_6 : ¬ w9.heap.size = B6 := fun h => l6_21 h.symm
  have m7_21 : B7 < w9.heap.size := cellBlock c7_0_9
  have l7_21 : ¬ B7 = w9.heap.size := blkNe c7_0_9
  have l21_7 : ¬ w9.heap.size = B7 := fun h => l7_21 h.symm
  have m8_21 : B8 < w9.heap.size := cellBlock c8_0_9
  have l8_21 : ¬ B8 = w9.heap.size := blkNe c8_0_9
  have l21_8 : ¬ w9.heap.size = B8 := fun h => l8_21 h.symm
  have m20_21 : B20 < w9.heap.size := cellBlock c20_0_9
  have l20_21 : ¬ B20 = w9.heap.size := blkNe c20_0_9
  have l21_20 : ¬ w9.heap.size = B20 := fun h => l20_21 h.symm
  go_wp2_with fail
  go_at_call 20
  refine (mul_is x1 x2 c1 c2 (p1, p2, 0) F3.out _ (HT.out.grown (Grown.alloc G9.out _ _))).mono ?_
  rintro _ w10 ⟨rfl, hg10⟩
  obtain ⟨G10, c21_0_10, c21_1_10, K10⟩ := fracKeep G9.out hg10
  have c5_0_10 := grownSome K10.out c5_0_9
  have c5_1_10 := grownSome K10.out c5_1_9
  have c6_0_10 := grownSome K10.out c6_0_9
  have c6_1_10 := grownSome K10.out c6_1_9
  have c7_0_10 := grownSome K10.out c7_0_9
  have c7_1_10 := grownSome K10.out c7_1_9
  have c8_0_10 := grownSome K10.out c8_0_9
  have c8_1_10 := grownSome K10.out c8_1_9
  have c20_0_10 := grownSome K10.out c20_0_9
  have c20_1_10 := grownSome K10.out c20_1_9
  clear c5_0_9 c5_1_9 c6_0_9 c6_1_9 c7_0_9 c7_1_9 c8_0_9 c8_1_9 c20_0_9 c20_1_9
  clear hg10 K10
  clear HT9
  have HT10 : Hid (Tab w10) := Lib.hid (HT.out.grown G10.out)
  generalize w9.heap.size = B21 at *
  have m5_22 : B5 < w10.heap.size := cellBlock c5_0_10
  have l5_22 : ¬ B5 = w10.heap.size := blkNe c5_0_10
  have l22_5 : ¬ w10.heap.size = B5 := fun h => l5_22 h.symm
  have m6_22 : B6 < w10.heap.size := cellBlock c6_0_10
  have l6_22 : ¬ B6 = w10.heap.size := blkNe c6_0_10
  have l22_6 : ¬ w10.heap.size = B6 := fun h => l6_22 h.symm
  have m7_22 : B7 < w10.heap.size := cellBlock c7_0_10
  have l7_22 : ¬ B7 = w10.heap.size := blkNe c7_0_10
  have l22_7 : ¬ w10.heap.size = B7 := fun h => l7_22 h.symm
  have m8_22 : B8 < w10.heap.size := cellBlock c8_0_10
  have l8_22 : ¬ B8 = w10.heap.size := blkNe c8_0_10
  have l22_8 : ¬ w10.heap.size = B8 := fun h => l8_22 h.symm
  have m20_22 : B20 < w10.heap.size := cellBlock c20_0_10
  have l20_22 : ¬ B20 = w10.heap.size := blkNe c20_0_10
  have l22_20 : ¬ w10.heap.size = B20 := fun h => l20_22 h.symm
  have m21_22 : B21 < w10.heap.size := cellBlock c21_0_10
  have l21_22 : ¬ B21 = w10.heap.size := blkNe c21_0_10
  have l22_21 : ¬ w10.heap.size = B21 := fun h => l21_22 h.symm
  go_wp2_with fail
  go_at_call 20
  refine (mul_is b1 b2 c1 c2 (z1, z2, 0) F4.out _ (HT.out.grown (Grown.alloc G10.out _ _))).mono ?_
  rintro _ w11 ⟨rfl, hg11⟩
  obtain ⟨G11, c22_0_11, c22_1_11, K11⟩ := fracKeep G10.out hg11
  have c5_0_11 := grownSome K11.out c5_0_10
  have c5_1_11 := grownSome K11.out c5_1_10
  have c6_0_11 := grownSome K11.out c6_0_10
  have c6_1_11 := grownSome K11.out c6_1_10
  have c7_0_11 := grownSome K11.out c7_0_10
  have c7_1_11 := grownSome K11.out c7_1_10
  have c8_0_11 := grownSome K11.out c8_0_10
  have c8_1_11 := grownSome K11.out c8_1_10
  have c20_0_11 := grownSome K11.out c20_0_10
  have c20_1_11 := grownSome K11.out c20_1_10
  have c21_0_11 := grownSome K11.out c21_0_10
  have c21_1_11 := grownSome K11.out c21_1_10
  clear c5_0_10 c5_1_10 c6_0_10 c6_1_10 c7_0_10 c7_1_10 c8_0_10 c8_1_10 c20_0_10 c20_1_10 c21_0_10 c21_1_10
  clear hg11 K11
  clear HT10
  have HT11 : Hid (Tab w11) := Lib.hid (HT.out.grown G11.out)
  generalize w10.heap.size = B22 at *
  have m5_23 : B5 < w11.heap.size := cellBlock c5_0_11
  have l5_23 : ¬ B5 = w11.heap.size := blkNe c5_0_11
  have l23_5 : ¬ w11.heap.size = B5 := fun h => l5_23 h.symm
  have m6_23 : B6 < w11.heap.size := cellBlock c6_0_11
  have l6_23 : ¬ B6 = w11.heap.size := blkNe c6_0_11
  have l23_6 : ¬ w11.heap.size = B6 := fun h => l6_23 h.symm
  have m7_23 : B7 < w11.heap.size := cellBlock c7_0_11
  have l7_23 : ¬ B7 = w11.heap.size := blkNe c7_0_11
  have l23_7 : ¬ w11.heap.size = B7 := fun h => l7_23 h.symm
  have m8_23 : B8 < w11.heap.size := cellBlock c8_0_11
  have l8_23 : ¬ B8 = w11.heap.size := blkNe c8_0_11
  have l23_8 : ¬ w11.heap.size = B8 := fun h => l8_23 h.symm
  have m20_23 : B20 < w11.heap.size := cellBlock c20_0_11
  have l20_23 : ¬ B20 = w11.heap.size := blkNe c20_0_11
  have l23_20 : ¬ w11.heap.size = B20 := fun h => l20_23 h.symm
  have m21_23 : B21 < w11.heap.size := cellBlock c21_0_11
  have l21_23 : ¬ B21 = w11.heap.size := blkNe c21_0_11
  have l23_21 : ¬ w11.heap.size = B21 := fun h => l21_23 h.symm
  have m22_23 : B22 < w11.heap.size := cellBlock c22_0_11
  have l22_23 : ¬ B22 = w11.heap.size := blkNe c22_0_11
  have l23_22 : ¬ w11.heap.size = B22 := fun h => l22_23 h.symm
  go_wp2_with fail
  go_at_call 20
  refine (mul_is a1 a2 z1 z2 (p1, p2, 0) F5.out _ (HT.out.grown (Grown.alloc G11.out _ _))).mono ?_
  rintro _ w12 ⟨rfl, hg12⟩
  obtain ⟨G12, c23_0_12, c23_1_12, K12⟩ := fracKeep G11.out hg12
  have c5_0_12 := grownSome K12.out c5_0_11
  have c5_1_12 := grownSome K12.out c5_1_11
  have c6_0_12 := grownSome K12.out c6_0_11
  have c6_1_12 := grownSome K12.out c6_1_11
  have c7_0_12 := grownSome K12.out c7_0_11
  have c7_1_12 := grownSome K12.out c7_1_11
  have c8_0_12 := grownSome K12.out c8_0_11
  have c8_1_12 := grownSome K12.out c8_1_11
  have c20_0_12 := grownSome K12.out c20_0_11
  have c20_1_12 := grownSome K12.out c20_1_11
  have c21_0_12 := grownSome K12.out c21_0_11
  have c21_1_12 := grownSome K12.out c21_1_11
  have c22_0_12 := grownSome K12.out c22_0_11
  have c22_1_12 := grownSome K12.out c22_1_11
  clear c5_0_11 c5_1_11 c6_0_11 c6_1_11 c7_0_11 c7_1_11 c8_0_11 c8_1_11 c20_0_11 c20_1_11 c21_0_11 c21_1_11 c22_0_11 c22_1_11
  clear hg12 K12
  clear HT11
  have HT12 : Hid (Tab w12) := Lib.hid (HT.out.grown G12.out)
  generalize w11.heap.size = B23 at *
  have m5_24 : B5 < w12.heap.size := cellBlock c5_0_12
  have l5_24 : ¬ B5 = w12.heap.size := blkNe c5_0_12
  have l24_5 : ¬ w12.heap.size = B5 := fun h => l5_24 h.symm
  have m6_24 : B6 < w12.heap.size := cellBlock c6_0_12
  have l6_24 : ¬ B6 = w12.heap.size := blkNe c6_0_12
  have l24_6 : ¬ w12.heap.size = B6 := fun h => l6_24 h.symm
  have m7_24 : B7 < w12.heap.size := cellBlock c7_0_12
  have l7_24 : ¬ B7 = w12.heap.size := blkNe c7_0_12
  have l24_7 : ¬ w12.heap.size = B7 := fun h => l7_24 h.symm
  have m8_24 : B8 < w12.heap.size := cellBlock c8_0_12
  have l8_24 : ¬ B8 = w12.heap.size := blkNe c8_0_12
  have l24_8 : ¬ w12.heap.size = B8 := fun h => l8_24 h.symm
  have m20_24 : B20 < w12.heap.size := cellBlock c20_0_12
  have l20_24 : ¬ B20 = w12.heap.size := blkNe c20_0_12
  have l24_20 : ¬ w12.heap.size = B20 := fun h => l20_24 h.symm
  have m21_24 : B21 < w12.heap.size := cellBlock c21_0_12
  have l21_24 : ¬ B21 = w12.heap.size := blkNe c21_0_12
  have l24_21 : ¬ w12.heap.size = B21 := fun h => l21_24 h.symm
  have m22_24 : B22 < w12.heap.size := cellBlock c22_0_12
  have l22_24 : ¬ B22 = w12.heap.size := blkNe c22_0_12
  have l24_22 : ¬ w12.heap.size = B22 := fun h => l22_24 h.symm
  have m23_24 : B23 < w12.heap.size := cellBlock c23_0_12
  have l23_24 : ¬ B23 = w12.heap.size := blkNe c23_0_12
  have l24_23 : ¬ w12.heap.size = B23 := fun h => l23_24 h.symm
  go_wp2_with fail
  go_at_call 20
  refine (mul_is s1 s2 c1 c2 (g1, g2, 0) F6.out _ (HT.out.grown (Grown.alloc G12.out _ _))).mono ?_
  rintro _ w13 ⟨rfl, hg13⟩
  obtain ⟨G13, c24_0_13, c24_1_13, K13⟩ := fracKeep G12.out hg13
  have c5_0_13 := grownSome K13.out c5_0_12
  have c5_1_13 := grownSome K13.out c5_1_12
  have c6_0_13 := grownSome K13.out c6_0_12
  have c6_1_13 := grownSome K13.out c6_1_12
  have c7_0_13 := grownSome K13.out c7_0_12
  have c7_1_13 := grownSome K13.out c7_1_12
  have c8_0_13 := grownSome K13.out c8_0_12
  have c8_1_13 := grownSome K13.out c8_1_12
  have c20_0_13 := grownSome K13.out c20_0_12
  have c20_1_13 := grownSome K13.out c20_1_12
  have c21_0_13 := grownSome K13.out c21_0_12
  have c21_1_13 := grownSome K13.out c21_1_12
  have c22_0_13 := grownSome K13.out c22_0_12
  have c22_1_13 := grownSome K13.out c22_1_12
  have c23_0_13 := grownSome K13.out c23_0_12
  have c23_1_13 := grownSome K13.out c23_1_12
  clear c5_0_12 c5_1_12 c6_0_12 c6_1_12 c7_0_12 c7_1_12 c8_0_12 c8_1_12 c20_0_12 c20_1_12 c21_0_12 c21_1_12 c22_0_12 c22_1_12 c23_0_12 c23_1_12
  clear hg13 K13
  clear HT12
  have HT13 : Hid (Tab w13) := Lib.hid (HT.out.grown G13.out)
  generalize w12.heap.size = B24 at *
  have m5_25 : B5 < w13.heap.size := cellBlock c5_0_13
  have l5_25 : ¬ B5 = w13.heap.size := blkNe c5_0_13
  have l25_5 : ¬ w13.heap.size = B5 := fun h => l5_25 h.symm
  have m6_25 : B6 < w13.heap.size := cellBlock c6_0_13
  have l6_25 : ¬ B6 = w13.heap.size := blkNe c6_0_13
  have l25_6 : ¬ w13.heap.size = B6 := fun h => l6_25 h.symm
  have m7_25 : B7 < w13.heap.size := cellBlock c7_0_13
  have l7_25 : ¬ B7 = w13.heap.size := blkNe c7_0_13
  have l25_7 : ¬ w13.heap.size = B7 := fun h => l7_25 h.symm
  have m8_25 : B8 < w13.heap.size := cellBlock c8_0_13
  have l8_25 : ¬ B8 = w13.heap.size := blkNe c8_0_13
  have l25_8 : ¬ w13.heap.size = B8 := fun h => l8_25 h.symm
  have m20_25 : B20 < w13.heap.size := cellBlock c20_0_13
  have l20_25 : ¬ B20 = w13.heap.size := blkNe c20_0_13
  have l25_20 : ¬ w13.heap.size = B20 := fun h => l20_25 h.symm
  have m21_25 : B21 < w13.heap.size := cellBlock c21_0_13
  have l21_25 : ¬ B21 = w13.heap.size := blkNe c21_0_13
  have l25_21 : ¬ w13.heap.size = B21 := fun h => l21_25 h.symm
  have m22_25 : B22 < w13.heap.size := cellBlock c22_0_13
  have l22_25 : ¬ B22 = w13.heap.size := blkNe c22_0_13
  have l25_22 : ¬ w13.heap.size = B22 := fun h => l22_25 h.symm
  have m23_25 : B23 < w13.heap.size := cellBlock c23_0_13
  have l23_25 : ¬ B23 = w13.heap.size := blkNe c23_0_13
  have l25_23 : ¬ w13.heap.size = B23 := fun h => l23_25 h.symm
  have m24_25 : B24 < w13.heap.size := cellBlock c24_0_13
  have l24_25 : ¬ B24 = w13.heap.size := blkNe c24_0_13
  have l25_24 : ¬ w13.heap.size = B24 := fun h => l24_25 h.symm
  clear c8_0_13 c8_1_13
  go_wp2_with fail
  go_at_call 20
  refine (mul_is a1 a2 c1 c2 (r1, r2, 0) F7.out _ (HT.out.grown (Grown.alloc G13.out _ _))).mono ?_
  rintro _ w14 ⟨rfl, hg14⟩
  obtain ⟨G14, c25_0_14, c25_1_14, K14⟩ := fracKeep G13.out hg14
  have c5_0_14 := grownSome K14.out c5_0_13
  have c5_1_14 := grownSome K14.out c5_1_13
  have c6_0_14 := grownSome K14.out c6_0_13
  have c6_1_14 := grownSome K14.out c6_1_13
  have c7_0_14 := grownSome K14.out c7_0_13
  have c7_1_14 := grownSome K14.out c7_1_13
  have c20_0_14 := grownSome K14.out c20_0_13
  have c20_1_14 := grownSome K14.out c20_1_13
  have c21_0_14 := grownSome K14.out c21_0_13
  have c21_1_14 := grownSome K14.out c21_1_13
  have c22_0_14 := grownSome K14.out c22_0_13
  have c22_1_14 := grownSome K14.out c22_1_13
  have c23_0_14 := grownSome K14.out c23_0_13
  have c23_1_14 := grownSome K14.out c23_1_13
  have c24_0_14 := grownSome K14.out c24_0_13
  have c24_1_14 := grownSome K14.out c24_1_13
  clear c5_0_13 c5_1_13 c6_0_13 c6_1_13 c7_0_13 c7_1_13 c20_0_13 c20_1_13 c21_0_13 c21_1_13 c22_0_13 c22_1_13 c23_0_13 c23_1_13 c24_0_13 c24_1_13
  clear hg14 K14
  clear HT13
  have HT14 : Hid (Tab w14) := Lib.hid (HT.out.grown G14.out)
  generalize w13.heap.size = B25 at *
  have m5_26 : B5 < w14.heap.size := cellBlock c5_0_14
  have l5_26 : ¬ B5 = w14.heap.size := blkNe c5_0_14
  have l26_5 : ¬ w14.heap.size = B5 := fun h => l5_26 h.symm
  have m6_26 : B6 < w14.heap.size := cellBlock c6_0_14
  have l6_26 : ¬ B6 = w14.heap.size := blkNe c6_0_14
  have l26_6 : ¬ w14.heap.size = B6 := fun h => l6_26 h.symm
  have m7_26 : B7 < w14.heap.size := cellBlock c7_0_14
  have l7_26 : ¬ B7 = w14.heap.size := blkNe c7_0_14
  have l26_7 : ¬ w14.heap.size = B7 := fun h => l7_26 h.symm
  have m20_26 : B20 < w14.heap.size := cellBlock c20_0_14
  have l20_26 : ¬ B20 = w14.heap.size := blkNe c20_0_14
  have l26_20 : ¬ w14.heap.size = B20 := fun h => l20_26 h.symm
  have m21_26 : B21 < w14.heap.size := cellBlock c21_0_14
  have l21_26 : ¬ B21 = w14.heap.size := blkNe c21_0_14
  have l26_21 : ¬ w14.heap.size = B21 := fun h => l21_26 h.symm
  have m22_26 : B22 < w14.heap.size := cellBlock c22_0_14
  have l22_26 : ¬ B22 = w14.heap.size := blkNe c22_0_14
  have l26_22 : ¬ w14.heap.size = B22 := fun h => l22_26 h.symm
  have m23_26 : B23 < w14.heap.size := cellBlock c23_0_14
  have l23_26 : ¬ B23 = w14.heap.size := blkNe c23_0_14
  have l26_23 : ¬ w14.heap.size = B23 := fun h => l23_26 h.symm
  have m24_26 : B24 < w14.heap.size := cellBlock c24_0_14
  have l24_26 : ¬ B24 = w14.heap.size := blkNe c24_0_14
  have l26_24 : ¬ w14.heap.size = B24 := fun h => l24_26 h.symm
  have m25_26 : B25 < w14.heap.size := cellBlock c25_0_14
  have l25_26 : ¬ B25 = w14.heap.size := blkNe c25_0_14
  have l26_25 : ¬ w14.heap.size = B25 := fun h => l25_26 h.symm
  clear c7_0_14 c7_1_14
  go_wp2_with fail
  go_at_call 16
  refine (add_is r1 r2 z1 z2 (g1, g2, 0) F8.out _ (HT.out.grown (Grown.alloc G14.out _ _))).mono ?_
  rintro _ w15 ⟨rfl, hg15⟩
  obtain ⟨G15, c26_0_15, c26_1_15, K15⟩ := fracKeep G14.out hg15
  have c5_0_15 := grownSome K15.out c5_0_14
  have c5_1_15 := grownSome K15.out c5_1_14
  have c6_0_15 := grownSome K15.out c6_0_14
  have c6_1_15 := grownSome K15.out c6_1_14
  have c20_0_15 := grownSome K15.out c20_0_14
  have c20_1_15 := grownSome K15.out c20_1_14
  have c21_0_15 := grownSome K15.out c21_0_14
  have c21_1_15 := grownSome K15.out c21_1_14
  have c22_0_15 := grownSome K15.out c22_0_14
  have c22_1_15 := grownSome K15.out c22_1_14
  have c23_0_15 := grownSome K15.out c23_0_14
  have c23_1_15 := grownSome K15.out c23_1_14
  have c24_0_15 := grownSome K15.out c24_0_14
  have c24_1_15 := grownSome K15.out c24_1_14
  have c25_0_15 := grownSome K15.out c25_0_14
  have c25_1_15 := grownSome K15.out c25_1_14
  clear c5_0_14 c5_1_14 c6_0_14 c6_1_14 c20_0_14 c20_1_14 c21_0_14 c21_1_14 c22_0_14 c22_1_14 c23_0_14 c23_1_14 c24_0_14 c24_1_14 c25_0_14 c25_1_14
  clear hg15 K15
  clear HT14
  have HT15 : Hid (Tab w15) := Lib.hid (HT.out.grown G15.out)
  generalize w14.heap.size = B26 at *
  have m5_28 : B5 < w15.heap.size := cellBlock c5_0_15
  have l5_28 : ¬ B5 = w15.heap.size := blkNe c5_0_15
  have l28_5 : ¬ w15.heap.size = B5 := fun h => l5_28 h.symm
  have m6_28 : B6 < w15.heap.size := cellBlock c6_0_15
  have l6_28 : ¬ B6 = w15.heap.size := blkNe c6_0_15
  have l28_6 : ¬ w15.heap.size = B6 := fun h => l6_28 h.symm
  have m20_28 : B20 < w15.heap.size := cellBlock c20_0_15
  have l20_28 : ¬ B20 = w15.heap.size := blkNe c20_0_15
  have l28_20 : ¬ w15.heap.size = B20 := fun h => l20_28 h.symm
  have m21_28 : B21 < w15.heap.size := cellBlock c21_0_15
  have l21_28 : ¬ B21 = w15.heap.size := blkNe c21_0_15
  have l28_21 : ¬ w15.heap.size = B21 := fun h => l21_28 h.symm
  have m22_28 : B22 < w15.heap.size := cellBlock c22_0_15
  have l22_28 : ¬ B22 = w15.heap.size := blkNe c22_0_15
  have l28_22 : ¬ w15.heap.size = B22 := fun h => l22_28 h.symm
  have m23_28 : B23 < w15.heap.size := cellBlock c23_0_15
  have l23_28 : ¬ B23 = w15.heap.size := blkNe c23_0_15
  have l28_23 : ¬ w15.heap.size = B23 := fun h => l23_28 h.symm
  have m24_28 : B24 < w15.heap.size := cellBlock c24_0_15
  have l24_28 : ¬ B24 = w15.heap.size := blkNe c24_0_15
  have l28_24 : ¬ w15.heap.size = B24 := fun h => l24_28 h.symm
  have m25_28 : B25 < w15.heap.size := cellBlock c25_0_15
  have l25_28 : ¬ B25 = w15.heap.size := blkNe c25_0_15
  have l28_25 : ¬ w15.heap.size = B25 := fun h => l25_28 h.symm
  have m26_28 : B26 < w15.heap.size := cellBlock c26_0_15
  have l26_28 : ¬ B26 = w15.heap.size := blkNe c26_0_15
  have l28_26 : ¬ w15.heap.size = B26 := fun h => l26_28 h.symm
  go_upto_region 22 with fail
  by_cases hb0 : b1 = 0
  · have F := Lib.hid (F9.out hb0)
    subst hb0
    go_wp2_with fail
    go_at_call 22
    refine (div_is x1 x2 0 b2 (0, 0, 2) F.out _ (HT.out.grown (Grown.alloc G15.out _ _))).mono ?_
    rintro _ w16 ⟨rfl, hg16⟩
    obtain ⟨G16, c28_0_16, c28_1_16, K16⟩ := fracKeep G15.out hg16
    have c5_0_16 := grownSome K16.out c5_0_15
    have c5_1_16 := grownSome K16.out c5_1_15
    have c6_0_16 := grownSome K16.out c6_0_15
    have c6_1_16 := grownSome K16.out c6_1_15
    have c20_0_16 := grownSome K16.out c20_0_15
    have c20_1_16 := grownSome K16.out c20_1_15
    have c21_0_16 := grownSome K16.out c21_0_15
    have c21_1_16 := grownSome K16.out c21_1_15
    have c22_0_16 := grownSome K16.out c22_0_15
    have c22_1_16 := grownSome K16.out c22_1_15
    have c23_0_16 := grownSome K16.out c23_0_15
    have c23_1_16 := grownSome K16.out c23_1_15
    have c24_0_16 := grownSome K16.out c24_0_15
    have c24_1_16 := grownSome K16.out c24_1_15
    have c25_0_16 := grownSome K16.out c25_0_15
    have c25_1_16 := grownSome K16.out c25_1_15
    have c26_0_16 := grownSome K16.out c26_0_15
    have c26_1_16 := grownSome K16.out c26_1_15
    clear c5_0_15 c5_1_15 c6_0_15 c6_1_15 c20_0_15 c20_1_15 c21_0_15 c21_1_15 c22_0_15 c22_1_15 c23_0_15 c23_1_15 c24_0_15 c24_1_15 c25_0_15 c25_1_15 c26_0_15 c26_1_15
    clear hg16 K16
    clear HT15
    have HT16 : Hid (Tab w16) := Lib.hid (HT.out.grown G16.out)
    generalize w15.heap.size = B28 at *
    have m5_30 : B5 < w16.heap.size := cellBlock c5_0_16
    have l5_30 : ¬ B5 = w16.heap.size := blkNe c5_0_16
    have l30_5 : ¬ w16.heap.size = B5 := fun h => l5_30 h.symm
    have m6_30 : B6 < w16.heap.size := cellBlock c6_0_16
    have l6_30 : ¬ B6 = w16.heap.size := blkNe c6_0_16
    have l30_6 : ¬ w16.heap.size = B6 := fun h => l6_30 h.symm
    have m20_30 : B20 < w16.heap.size := cellBlock c20_0_16
    have l20_30 : ¬ B20 = w16.heap.size := blkNe c20_0_16
    have l30_20 : ¬ w16.heap.size = B20 := fun h => l20_30 h.symm
    have m21_30 : B21 < w16.heap.size := cellBlock c21_0_16
    have l21_30 : ¬ B21 = w16.heap.size := blkNe c21_0_16
    have l30_21 : ¬ w16.heap.size = B21 := fun h => l21_30 h.symm
    have m22_30 : B22 < w16.heap.size := cellBlock c22_0_16
    have l22_30 : ¬ B22 = w16.heap.size := blkNe c22_0_16
    have l30_22 : ¬ w16.heap.size = B22 := fun h => l22_30 h.symm
    have m23_30 : B23 < w16.heap.size := cellBlock c23_0_16
    have l23_30 : ¬ B23 = w16.heap.size := blkNe c23_0_16
    have l30_23 : ¬ w16.heap.size = B23 := fun h => l23_30 h.symm
    have m24_30 : B24 < w16.heap.size := cellBlock c24_0_16
    have l24_30 : ¬ B24 = w16.heap.size := blkNe c24_0_16
    have l30_24 : ¬ w16.heap.size = B24 := fun h => l24_30 h.symm
    have m25_30 : B25 < w16.heap.size := cellBlock c25_0_16
    have l25_30 : ¬ B25 = w16.heap.size := blkNe c25_0_16
    have l30_25 : ¬ w16.heap.size = B25 := fun h => l25_30 h.symm
    have m26_30 : B26 < w16.heap.size := cellBlock c26_0_16
    have l26_30 : ¬ B26 = w16.heap.size := blkNe c26_0_16
    have l30_26 : ¬ w16.heap.size = B26 := fun h => l26_30 h.symm
    have m28_30 : B28 < w16.heap.size := cellBlock c28_0_16
    have l28_30 : ¬ B28 = w16.heap.size := blkNe c28_0_16
    have l30_28 : ¬ w16.heap.size = B28 := fun h => l28_30 h.symm
    clear c20_0_16 c20_1_16
    clear c21_0_16 c21_1_16
    clear c22_0_16 c22_1_16
    clear c23_0_16 c23_1_16
    clear c24_0_16 c24_1_16
    clear c25_0_16 c25_1_16
    clear c26_0_16 c26_1_16
    clear c28_0_16 c28_1_16
    go_wp2_with fail
    go_ret
    exact ⟨rfl, (Grown.alloc G16.out _ _)⟩
  · have F := Lib.hid (F10.out hb0)
    go_wp2_with fail
    go_at_call 22
    refine (div_is x1 x2 b1 b2 (a1, a2, 0) F.out _ (HT.out.grown (Grown.alloc G15.out _ _))).mono ?_
    rintro _ w16 ⟨rfl, hg16⟩
    obtain ⟨G16, c28_0_16, c28_1_16, K16⟩ := fracKeep G15.out hg16
    have c5_0_16 := grownSome K16.out c5_0_15
    have c5_1_16 := grownSome K16.out c5_1_15
    have c6_0_16 := grownSome K16.out c6_0_15
    have c6_1_16 := grownSome K16.out c6_1_15
    have c20_0_16 := grownSome K16.out c20_0_15
    have c20_1_16 := grownSome K16.out c20_1_15
    have c21_0_16 := grownSome K16.out c21_0_15
    have c21_1_16 := grownSome K16.out c21_1_15
    have c22_0_16 := grownSome K16.out c22_0_15
    have c22_1_16 := grownSome K16.out c22_1_15
    have c23_0_16 := grownSome K16.out c23_0_15
    have c23_1_16 := grownSome K16.out c23_1_15
    have c24_0_16 := grownSome K16.out c24_0_15
    have c24_1_16 := grownSome K16.out c24_1_15
    have c25_0_16 := grownSome K16.out c25_0_15
    have c25_1_16 := grownSome K16.out c25_1_15
    have c26_0_16 := grownSome K16.out c26_0_15
    have c26_1_16 := grownSome K16.out c26_1_15
    clear c5_0_15 c5_1_15 c6_0_15 c6_1_15 c20_0_15 c20_1_15 c21_0_15 c21_1_15 c22_0_15 c22_1_15 c23_0_15 c23_1_15 c24_0_15 c24_1_15 c25_0_15 c25_1_15 c26_0_15 c26_1_15
    clear hg16 K16
    clear HT15
    have HT16 : Hid (Tab w16) := Lib.hid (HT.out.grown G16.out)
    generalize w15.heap.size = B28 at *
    have m5_30 : B5 < w16.heap.size := cellBlock c5_0_16
    have l5_30 : ¬ B5 = w16.heap.size := blkNe c5_0_16
    have l30_5 : ¬ w16.heap.size = B5 := fun h => l5_30 h.symm
    have m6_30 : B6 < w16.heap.size := cellBlock c6_0_16
    have l6_30 : ¬ B6 = w16.heap.size := blkNe c6_0_16
    have l30_6 : ¬ w16.heap.size = B6 := fun h => l6_30 h.symm
    have m20_30 : B20 < w16.heap.size := cellBlock c20_0_16
    have l20_30 : ¬ B20 = w16.heap.size := blkNe c20_0_16
    have l30_20 : ¬ w16.heap.size = B20 := fun h => l20_30 h.symm
    have m21_30 : B21 < w16.heap.size := cellBlock c21_0_16
    have l21_30 : ¬ B21 = w16.heap.size := blkNe c21_0_16
    have l30_21 : ¬ w16.heap.size = B21 := fun h => l21_30 h.symm
    have m22_30 : B22 < w16.heap.size := cellBlock c22_0_16
    have l22_30 : ¬ B22 = w16.heap.size := blkNe c22_0_16
    have l30_22 : ¬ w16.heap.size = B22 := fun h => l22_30 h.symm
    have m23_30 : B23 < w16.heap.size := cellBlock c23_0_16
    have l23_30 : ¬ B23 = w16.heap.size := blkNe c23_0_16
    have l30_23 : ¬ w16.heap.size = B23 := fun h => l23_30 h.symm
    have m24_30 : B24 < w16.heap.size := cellBlock c24_0_16
    have l24_30 : ¬ B24 = w16.heap.size := blkNe c24_0_16
    have l30_24 : ¬ w16.heap.size = B24 := fun h => l24_30 h.symm
    have m25_30 : B25 < w16.heap.size := cellBlock c25_0_16
    have l25_30 : ¬ B25 = w16.heap.size := blkNe c25_0_16
    have l30_25 : ¬ w16.heap.size = B25 := fun h => l25_30 h.symm
    have m26_30 : B26 < w16.heap.size := cellBlock c26_0_16
    have l26_30 : ¬ B26 = w16.heap.size := blkNe c26_0_16
    have l30_26 : ¬ w16.heap.size = B26 := fun h => l26_30 h.symm
    have m28_30 : B28 < w16.heap.size := cellBlock c28_0_16
    have l28_30 : ¬ B28 = w16.heap.size := blkNe c28_0_16
    have l30_28 : ¬ w16.heap.size = B28 := fun h => l28_30 h.symm
    clear c20_0_16 c20_1_16
    clear c21_0_16 c21_1_16
    clear c22_0_16 c22_1_16
    clear c23_0_16 c23_1_16
    clear c24_0_16 c24_1_16
    clear c25_0_16 c25_1_16
    clear c26_0_16 c26_1_16
    clear c28_0_16 c28_1_16
    go_wp2_with fail
    go_ret
    exact ⟨rfl, (Grown.alloc G16.out _ _)⟩

/-- For all small fractions. -/
theorem field_true (n0 n1 n2 d0 d1 d2 : Int) (hn0 : -128 ≤ n0 ∧ n0 ≤ 127) (hn1 : -128 ≤ n1 ∧ n1 ≤ 127) (hn2 : -128 ≤ n2 ∧ n2 ≤ 127) (hd0 : 0 ≤ d0 ∧ d0 ≤ 255) (hd1 : 0 ≤ d1 ∧ d1 ≤ 255) (hd2 : 0 ≤ d2 ∧ d2 ≤ 255) (w : World) (hT : Tab w) :
    Calls Tryd.prog 6 #[.agg #[.int .i8 n0, .int .i8 n1, .int .i8 n2], .agg #[.int .u8 d0, .int .u8 d1, .int .u8 d2]] w fun e w' => e = .returned (.bool true) ∧ Grown w w' := by
  obtain ⟨a1, a2, ha, S0⟩ := small_ex n0 d0 hn0 hd0
  obtain ⟨b1, b2, hb, S1⟩ := small_ex n1 d1 hn1 hd1
  obtain ⟨c1, c2, hc, S2⟩ := small_ex n2 d2 hn2 hd2
  exact field_walk n0 n1 n2 d0 d1 d2 a1 a2 b1 b2 c1 c2 w hT ha hb hc S0 S1 S2

end Go.Proofs.YtiibpdameldblaaDoor
