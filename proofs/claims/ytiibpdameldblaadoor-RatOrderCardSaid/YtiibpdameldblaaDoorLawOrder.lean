/- RatOrder's walk: a total order. -/
import Derived.Test.YtiibpdameldblaaDoorSmall
import Derived.Test.YtiibpdameldblaaDoorRegion
import Derived.Deep.DeepCutAuto
import Derived.Deep.CutRange
import Derived.Test.YtiibpdameldblaaDoorOrderMath
namespace Go.Proofs.YtiibpdameldblaaDoor
open Go Go.RowKit
attribute [local go_sem ↓] Go.wp_at_zero Go.wp_at_succ

/-- Behind the drawn region: three variables hold three fractions; what was there is as it was. -/
def TripleAt (W0 : World) (a1 a2 b1 b2 c1 c2 : Int) (v5 v6 v7 : Value) (wx : World) : Prop :=
  ∃ X Y Z : Nat, v5 = .pointer (some ⟨X, 0, none⟩) ∧ v6 = .pointer (some ⟨Y, 0, none⟩) ∧ v7 = .pointer (some ⟨Z, 0, none⟩) ∧ wx.cell? ⟨X, 0, none⟩ = some (.int .i64 a1) ∧ wx.cell? ⟨X, 1, none⟩ = some (.int .i64 a2) ∧ wx.cell? ⟨Y, 0, none⟩ = some (.int .i64 b1) ∧ wx.cell? ⟨Y, 1, none⟩ = some (.int .i64 b2) ∧ wx.cell? ⟨Z, 0, none⟩ = some (.int .i64 c1) ∧ wx.cell? ⟨Z, 1, none⟩ = some (.int .i64 c2) ∧ Grown W0 wx

set_option maxRecDepth 100000 in
set_option maxHeartbeats 16000000 in
theorem order_walk (n0 n1 n2 d0 d1 d2 a1 a2 b1 b2 c1 c2 : Int) (w : World) (hT : Tab w) (ha : Small 128 30 a1 a2) (hb : Small 128 30 b1 b2) (hc : Small 128 30 c1 c2) (S0 : Hid (∀ w, Calls Tryd.prog 34 #[.int .i8 n0, .int .u8 d0] w (One (a1, a2) w))) (S1 : Hid (∀ w, Calls Tryd.prog 34 #[.int .i8 n1, .int .u8 d1] w (One (b1, b2) w))) (S2 : Hid (∀ w, Calls Tryd.prog 34 #[.int .i8 n2, .int .u8 d2] w (One (c1, c2) w))) :
    Calls Tryd.prog 7 #[.agg #[.int .i8 n0, .int .i8 n1, .int .i8 n2], .agg #[.int .u8 d0, .int .u8 d1, .int .u8 d2]] w fun e w' => e = .returned (.bool true) ∧ Grown w w' := by
  have HT := Lib.hid hT
  clear hT
  obtain ⟨x, y, z, p, q, l, h, lb, ub, e1, e2, e3, e4, e5, e6, e7, heq, hsign, htr, hy3, hz3, hlb, hub, hle, hge, hhl, blb, bub, bl⟩ := order_facts ha hb hc
  have E1 := Lib.hid e1
  have E2 := Lib.hid e2
  have E3 := Lib.hid e3
  have E4 := Lib.hid e4
  have E5 := Lib.hid e5
  have E6 := Lib.hid e6
  have E7 := Lib.hid e7
  have HEQ := Lib.hid heq
  have HS := Lib.hid hsign
  have HTR := Lib.hid htr
  have HHL := Lib.hid hhl
  have K1 := Lib.hid (show IntKind.i64.wrap (l * a2) = lb by rw [hlb]; exact IntWalk.i64_in _ (by omega))
  have K2 := Lib.hid (show IntKind.i64.wrap (h * a2) = ub by rw [hub]; exact IntWalk.i64_in _ (by omega))
  have LB := Lib.hid (And.intro hlb hub)
  clear e1 e2 e3 e4 e5 e6 e7 heq hsign htr hy3 hz3 hlb hub hhl ha hb hc
  go_enter Tryd.func7, Tryd.ntmps7
  go_wp2_with fail
  go_at_call 14
  refine (works_true _ (HT.out.grown (by go_grown))).mono ?_
  rintro _ W0 ⟨rfl, hg⟩
  have c00 : W0.cell? ⟨w.heap.size, 0, none⟩ = some (.int .i8 n0) := grownSome hg (by simp [go_sem])
  have c01 : W0.cell? ⟨w.heap.size, 1, none⟩ = some (.int .i8 n1) := grownSome hg (by simp [go_sem])
  have c02 : W0.cell? ⟨w.heap.size, 2, none⟩ = some (.int .i8 n2) := grownSome hg (by simp [go_sem])
  have c10 : W0.cell? ⟨w.heap.size + 1, 0, none⟩ = some (.int .u8 d0) := grownSome hg (by simp [go_sem])
  have c11 : W0.cell? ⟨w.heap.size + 1, 1, none⟩ = some (.int .u8 d1) := grownSome hg (by simp [go_sem])
  have c12 : W0.cell? ⟨w.heap.size + 1, 2, none⟩ = some (.int .u8 d2) := grownSome hg (by simp [go_sem])
  have GW : Hid (Grown w W0) := Lib.hid (grownTrans (by go_grown) hg)
  clear hg
  generalize w.heap.size + 1 = B1 at *
  generalize w.heap.size = B0 at *
  go_upto_region 3 with fail
  go_cut [5, 6, 7] (fun v5 v6 v7 wx => TripleAt W0 a1 a2 b1 b2 c1 c2 v5 v6 v7 wx)
  case first =>
    refine region_inv (J := fun bb aa ww => ∃ u5 u6 u7 u24 u25 u26 u27 u28 u29 u30 u31 u32 u33 u34 u35 u36 u37 u38 : Value, aa = ⟨#[.agg #[.int .i8 n0, .int .i8 n1, .int .i8 n2], .agg #[.int .u8 d0, .int .u8 d1, .int .u8 d2], .pointer (some ⟨B0, 0, none⟩), .pointer (some ⟨B1, 0, none⟩), .bool false, u5, u6, u7, undef, undef, undef, undef, undef, undef, undef, undef, undef, undef, undef, undef, undef, undef, .bool true, .bool false, u24, u25, u26, u27, u28, u29, u30, u31, u32, u33, u34, u35, u36, u37, u38, undef, undef, undef, undef, undef, undef, undef, undef, undef, undef, undef, undef, undef, undef, undef, undef, undef, undef, undef, undef, undef, undef, undef, undef, undef, undef, undef, undef, undef, undef, undef, undef, undef, undef, undef, undef, undef, undef, undef, undef, undef, undef, undef, undef, undef, undef, undef, undef, undef, undef, undef, undef, undef, undef, undef, undef, undef, undef, undef, undef, undef, undef, undef, undef, undef, undef, undef, undef, undef, undef, undef, undef, undef, undef, undef, undef, undef, undef, undef, undef, undef, undef, undef, undef, undef, undef, undef, undef, undef, undef, undef, undef, undef, undef, undef, undef, undef, undef, undef, undef, undef, undef, undef, undef, undef, undef, undef, undef, undef, undef, undef, undef, undef, undef, undef, undef, undef, undef, undef, undef, undef, undef, undef, undef, undef, undef, undef, undef, undef, undef, undef, undef, undef, undef, undef, undef, undef, undef, undef], []⟩ ∧ Grown W0 ww ∧ (bb 0 → u24 = .pointer (some ⟨B0, 0, none⟩)) ∧ (bb 1 → u25 = .int .i8 n0) ∧ (bb 2 → u26 = .pointer (some ⟨B1, 0, none⟩)) ∧ (bb 3 → u27 = .int .u8 d0) ∧ (bb 4 → u28 = .agg #[.int .i64 a1, .int .i64 a2]) ∧ (bb 5 → u29 = .pointer (some ⟨B0, 1, none⟩)) ∧ (bb 6 → u30 = .int .i8 n1) ∧ (bb 7 → u31 = .pointer (some ⟨B1, 1, none⟩)) ∧ (bb 8 → u32 = .int .u8 d1) ∧ (bb 9 → u33 = .agg #[.int .i64 b1, .int .i64 b2]) ∧ (bb 10 → u34 = .pointer (some ⟨B0, 2, none⟩)) ∧ (bb 11 → u35 = .int .i8 n2) ∧ (bb 12 → u36 = .pointer (some ⟨B1, 2, none⟩)) ∧ (bb 13 → u37 = .int .u8 d2) ∧ (bb 14 → u38 = .agg #[.int .i64 c1, .int .i64 c2]) ∧ (bb 15 → VarAt W0 ww u5 (bb 18) (.int .i64 a1) (.int .i64 a2)) ∧ (bb 16 → VarAt W0 ww u6 (bb 19) (.int .i64 b1) (.int .i64 b2)) ∧ (bb 17 → VarAt W0 ww u7 (bb 20) (.int .i64 c1) (.int .i64 c2)) ∧ (bb 18 → bb 15) ∧ (bb 19 → bb 16) ∧ (bb 20 → bb 17) ∧ (bb 15 → bb 16 → Apart u5 u6) ∧ (bb 15 → bb 17 → Apart u5 u7) ∧ (bb 16 → bb 17 → Apart u6 u7)) (by kernel_rfl) (by kernel_rfl) ?done ?start ?steps
    case done =>
      rintro bb aa ww hb ⟨u5, u6, u7, u24, u25, u26, u27, u28, u29, u30, u31, u32, u33, u34, u35, u36, u37, u38, rfl, G, f0, f1, f2, f3, f4, f5, f6, f7, f8, f9, f10, f11, f12, f13, f14, f15, f16, f17, f18, f19, f20, d15_16, d15_17, d16_17⟩
      have g0 := f0 (hb 0 (by decide))
      have g1 := f1 (hb 1 (by decide))
      have g2 := f2 (hb 2 (by decide))
      have g3 := f3 (hb 3 (by decide))
      have g4 := f4 (hb 4 (by decide))
      have g5 := f5 (hb 5 (by decide))
      have g6 := f6 (hb 6 (by decide))
      have g7 := f7 (hb 7 (by decide))
      have g8 := f8 (hb 8 (by decide))
      have g9 := f9 (hb 9 (by decide))
      have g10 := f10 (hb 10 (by decide))
      have g11 := f11 (hb 11 (by decide))
      have g12 := f12 (hb 12 (by decide))
      have g13 := f13 (hb 13 (by decide))
      have g14 := f14 (hb 14 (by decide))
      have g15 := f15 (hb 15 (by decide))
      have g16 := f16 (hb 16 (by decide))
      have g17 := f17 (hb 17 (by decide))
      obtain ⟨X15, x15, y15, rfl, hX15, ⟨hc15, hd15⟩, -, hs15⟩ := g15
      obtain ⟨rfl, rfl⟩ := hs15 (hb 18 (by decide))
      obtain ⟨X16, x16, y16, rfl, hX16, ⟨hc16, hd16⟩, -, hs16⟩ := g16
      obtain ⟨rfl, rfl⟩ := hs16 (hb 19 (by decide))
      obtain ⟨X17, x17, y17, rfl, hX17, ⟨hc17, hd17⟩, -, hs17⟩ := g17
      obtain ⟨rfl, rfl⟩ := hs17 (hb 20 (by decide))
      go_wp2_with fail
      go_meet
      case rel => exact ⟨X15, X16, X17, rfl, rfl, rfl, hc15, hd15, hc16, hd16, hc17, hd17, G⟩
    case start => exact ⟨_, _, _, _, _, _, _, _, _, _, _, _, _, _, _, _, _, _, rfl, Grown.drew (Grown.refl _), fun h => h.elim, fun h => h.elim, fun h => h.elim, fun h => h.elim, fun h => h.elim, fun h => h.elim, fun h => h.elim, fun h => h.elim, fun h => h.elim, fun h => h.elim, fun h => h.elim, fun h => h.elim, fun h => h.elim, fun h => h.elim, fun h => h.elim, fun h => h.elim, fun h => h.elim, fun h => h.elim, fun h => h.elim, fun h => h.elim, fun h => h.elim, fun h => h.elim, fun h => h.elim, fun h => h.elim⟩
    case steps =>
      refine StepsFrom.cons (k := 0) ?_ (StepsFrom.cons (k := 1) ?_ (StepsFrom.cons (k := 2) ?_ (StepsFrom.cons (k := 3) ?_ (StepsFrom.cons (k := 4) ?_ (StepsFrom.cons (k := 5) ?_ (StepsFrom.cons (k := 6) ?_ (StepsFrom.cons (k := 7) ?_ (StepsFrom.cons (k := 8) ?_ (StepsFrom.cons (k := 9) ?_ (StepsFrom.cons (k := 10) ?_ (StepsFrom.cons (k := 11) ?_ (StepsFrom.cons (k := 12) ?_ (StepsFrom.cons (k := 13) ?_ (StepsFrom.cons (k := 14) ?_ (StepsFrom.cons (k := 15) ?_ (StepsFrom.cons (k := 16) ?_ (StepsFrom.cons (k := 17) ?_ (StepsFrom.cons (k := 18) ?_ (StepsFrom.cons (k := 19) ?_ (StepsFrom.cons (k := 20) ?_ (StepsFrom.nil)))))))))))))))))))))
      · -- 0: addr
        rintro bb aa ww hn hd ⟨u5, u6, u7, u24, u25, u26, u27, u28, u29, u30, u31, u32, u33, u34, u35, u36, u37, u38, rfl, G, f0, f1, f2, f3, f4, f5, f6, f7, f8, f9, f10, f11, f12, f13, f14, f15, f16, f17, f18, f19, f20, d15_16, d15_17, d16_17⟩ K hK
        have HK := Lib.hid hK
        clear hK
        go_simp
        exact HK.out _ _ ⟨_, _, _, _, _, _, _, _, _, _, _, _, _, _, _, _, _, _, rfl, G, fun _ => rfl, up (by decide) f1, up (by decide) f2, up (by decide) f3, up (by decide) f4, up (by decide) f5, up (by decide) f6, up (by decide) f7, up (by decide) f8, up (by decide) f9, up (by decide) f10, up (by decide) f11, up (by decide) f12, up (by decide) f13, up (by decide) f14, fun h => (f15 (down (by decide) h)).step (Grown.refl _) (down (by decide)), fun h => (f16 (down (by decide) h)).step (Grown.refl _) (down (by decide)), fun h => (f17 (down (by decide) h)).step (Grown.refl _) (down (by decide)), fun h => Or.inr (f18 (down (by decide) h)), fun h => Or.inr (f19 (down (by decide) h)), fun h => Or.inr (f20 (down (by decide) h)), fun h h' => d15_16 (down (by decide) h) (down (by decide) h'), fun h h' => d15_17 (down (by decide) h) (down (by decide) h'), fun h h' => d16_17 (down (by decide) h) (down (by decide) h')⟩
      · -- 1: load
        rintro bb aa ww hn hd ⟨u5, u6, u7, u24, u25, u26, u27, u28, u29, u30, u31, u32, u33, u34, u35, u36, u37, u38, rfl, G, f0, f1, f2, f3, f4, f5, f6, f7, f8, f9, f10, f11, f12, f13, f14, f15, f16, f17, f18, f19, f20, d15_16, d15_17, d16_17⟩ K hK
        have b0 : bb 0 := hd ⟨0, .data⟩ (by simp) (by rfl)
        obtain rfl := f0 b0
        have k0 := grownSome G c00
        have HK := Lib.hid hK
        clear hK
        go_simp
        exact HK.out _ _ ⟨_, _, _, _, _, _, _, _, _, _, _, _, _, _, _, _, _, _, rfl, G, fun _ => rfl, fun _ => rfl, up (by decide) f2, up (by decide) f3, up (by decide) f4, up (by decide) f5, up (by decide) f6, up (by decide) f7, up (by decide) f8, up (by decide) f9, up (by decide) f10, up (by decide) f11, up (by decide) f12, up (by decide) f13, up (by decide) f14, fun h => (f15 (down (by decide) h)).step (Grown.refl _) (down (by decide)), fun h => (f16 (down (by decide) h)).step (Grown.refl _) (down (by decide)), fun h => (f17 (down (by decide) h)).step (Grown.refl _) (down (by decide)), fun h => Or.inr (f18 (down (by decide) h)), fun h => Or.inr (f19 (down (by decide) h)), fun h => Or.inr (f20 (down (by decide) h)), fun h h' => d15_16 (down (by decide) h) (down (by decide) h'), fun h h' => d15_17 (down (by decide) h) (down (by decide) h'), fun h h' => d16_17 (down (by decide) h) (down (by decide) h')⟩
      · -- 2: addr
        rintro bb aa ww hn hd ⟨u5, u6, u7, u24, u25, u26, u27, u28, u29, u30, u31, u32, u33, u34, u35, u36, u37, u38, rfl, G, f0, f1, f2, f3, f4, f5, f6, f7, f8, f9, f10, f11, f12, f13, f14, f15, f16, f17, f18, f19, f20, d15_16, d15_17, d16_17⟩ K hK
        have HK := Lib.hid hK
        clear hK
        go_simp
        exact HK.out _ _ ⟨_, _, _, _, _, _, _, _, _, _, _, _, _, _, _, _, _, _, rfl, G, up (by decide) f0, up (by decide) f1, fun _ => rfl, up (by decide) f3, up (by decide) f4, up (by decide) f5, up (by decide) f6, up (by decide) f7, up (by decide) f8, up (by decide) f9, up (by decide) f10, up (by decide) f11, up (by decide) f12, up (by decide) f13, up (by decide) f14, fun h => (f15 (down (by decide) h)).step (Grown.refl _) (down (by decide)), fun h => (f16 (down (by decide) h)).step (Grown.refl _) (down (by decide)), fun h => (f17 (down (by decide) h)).step (Grown.refl _) (down (by decide)), fun h => Or.inr (f18 (down (by decide) h)), fun h => Or.inr (f19 (down (by decide) h)), fun h => Or.inr (f20 (down (by decide) h)), fun h h' => d15_16 (down (by decide) h) (down (by decide) h'), fun h h' => d15_17 (down (by decide) h) (down (by decide) h'), fun h h' => d16_17 (down (by decide) h) (down (by decide) h')⟩
      · -- 3: load
        rintro bb aa ww hn hd ⟨u5, u6, u7, u24, u25, u26, u27, u28, u29, u30, u31, u32, u33, u34, u35, u36, u37, u38, rfl, G, f0, f1, f2, f3, f4, f5, f6, f7, f8, f9, f10, f11, f12, f13, f14, f15, f16, f17, f18, f19, f20, d15_16, d15_17, d16_17⟩ K hK
        have b2 : bb 2 := hd ⟨2, .data⟩ (by simp) (by rfl)
        obtain rfl := f2 b2
        have k0 := grownSome G c10
        have HK := Lib.hid hK
        clear hK
        go_simp
        exact HK.out _ _ ⟨_, _, _, _, _, _, _, _, _, _, _, _, _, _, _, _, _, _, rfl, G, up (by decide) f0, up (by decide) f1, fun _ => rfl, fun _ => rfl, up (by decide) f4, up (by decide) f5, up (by decide) f6, up (by decide) f7, up (by decide) f8, up (by decide) f9, up (by decide) f10, up (by decide) f11, up (by decide) f12, up (by decide) f13, up (by decide) f14, fun h => (f15 (down (by decide) h)).step (Grown.refl _) (down (by decide)), fun h => (f16 (down (by decide) h)).step (Grown.refl _) (down (by decide)), fun h => (f17 (down (by decide) h)).step (Grown.refl _) (down (by decide)), fun h => Or.inr (f18 (down (by decide) h)), fun h => Or.inr (f19 (down (by decide) h)), fun h => Or.inr (f20 (down (by decide) h)), fun h h' => d15_16 (down (by decide) h) (down (by decide) h'), fun h h' => d15_17 (down (by decide) h) (down (by decide) h'), fun h h' => d16_17 (down (by decide) h) (down (by decide) h')⟩
      · -- 4: call
        rintro bb aa ww hn hd ⟨u5, u6, u7, u24, u25, u26, u27, u28, u29, u30, u31, u32, u33, u34, u35, u36, u37, u38, rfl, G, f0, f1, f2, f3, f4, f5, f6, f7, f8, f9, f10, f11, f12, f13, f14, f15, f16, f17, f18, f19, f20, d15_16, d15_17, d16_17⟩ K hK
        have b1 : bb 1 := hd ⟨1, .data⟩ (by simp) (by rfl)
        obtain rfl := f1 b1
        have b3 : bb 3 := hd ⟨3, .data⟩ (by simp) (by rfl)
        obtain rfl := f3 b3
        have HK := Lib.hid hK
        clear hK
        go_wp2_with ((go_at_call_of 34 (Value.int IntKind.i8 n0)); ((with_reducible refine (S0.out _).mono ?_); rintro _ w1 ⟨rfl, hg⟩))
        exact HK.out _ _ ⟨_, _, _, _, _, _, _, _, _, _, _, _, _, _, _, _, _, _, rfl, (grownTrans G hg), up (by decide) f0, fun _ => rfl, up (by decide) f2, fun _ => rfl, fun _ => rfl, up (by decide) f5, up (by decide) f6, up (by decide) f7, up (by decide) f8, up (by decide) f9, up (by decide) f10, up (by decide) f11, up (by decide) f12, up (by decide) f13, up (by decide) f14, fun h => (f15 (down (by decide) h)).step hg (down (by decide)), fun h => (f16 (down (by decide) h)).step hg (down (by decide)), fun h => (f17 (down (by decide) h)).step hg (down (by decide)), fun h => Or.inr (f18 (down (by decide) h)), fun h => Or.inr (f19 (down (by decide) h)), fun h => Or.inr (f20 (down (by decide) h)), fun h h' => d15_16 (down (by decide) h) (down (by decide) h'), fun h h' => d15_17 (down (by decide) h) (down (by decide) h'), fun h h' => d16_17 (down (by decide) h) (down (by decide) h')⟩
      · -- 5: addr
        rintro bb aa ww hn hd ⟨u5, u6, u7, u24, u25, u26, u27, u28, u29, u30, u31, u32, u33, u34, u35, u36, u37, u38, rfl, G, f0, f1, f2, f3, f4, f5, f6, f7, f8, f9, f10, f11, f12, f13, f14, f15, f16, f17, f18, f19, f20, d15_16, d15_17, d16_17⟩ K hK
        have HK := Lib.hid hK
        clear hK
        go_simp
        exact HK.out _ _ ⟨_, _, _, _, _, _, _, _, _, _, _, _, _, _, _, _, _, _, rfl, G, up (by decide) f0, up (by decide) f1, up (by decide) f2, up (by decide) f3, up (by decide) f4, fun _ => rfl, up (by decide) f6, up (by decide) f7, up (by decide) f8, up (by decide) f9, up (by decide) f10, up (by decide) f11, up (by decide) f12, up (by decide) f13, up (by decide) f14, fun h => (f15 (down (by decide) h)).step (Grown.refl _) (down (by decide)), fun h => (f16 (down (by decide) h)).step (Grown.refl _) (down (by decide)), fun h => (f17 (down (by decide) h)).step (Grown.refl _) (down (by decide)), fun h => Or.inr (f18 (down (by decide) h)), fun h => Or.inr (f19 (down (by decide) h)), fun h => Or.inr (f20 (down (by decide) h)), fun h h' => d15_16 (down (by decide) h) (down (by decide) h'), fun h h' => d15_17 (down (by decide) h) (down (by decide) h'), fun h h' => d16_17 (down (by decide) h) (down (by decide) h')⟩
      · -- 6: load
        rintro bb aa ww hn hd ⟨u5, u6, u7, u24, u25, u26, u27, u28, u29, u30, u31, u32, u33, u34, u35, u36, u37, u38, rfl, G, f0, f1, f2, f3, f4, f5, f6, f7, f8, f9, f10, f11, f12, f13, f14, f15, f16, f17, f18, f19, f20, d15_16, d15_17, d16_17⟩ K hK
        have b5 : bb 5 := hd ⟨5, .data⟩ (by simp) (by rfl)
        obtain rfl := f5 b5
        have k0 := grownSome G c01
        have HK := Lib.hid hK
        clear hK
        go_simp
        exact HK.out _ _ ⟨_, _, _, _, _, _, _, _, _, _, _, _, _, _, _, _, _, _, rfl, G, up (by decide) f0, up (by decide) f1, up (by decide) f2, up (by decide) f3, up (by decide) f4, fun _ => rfl, fun _ => rfl, up (by decide) f7, up (by decide) f8, up (by decide) f9, up (by decide) f10, up (by decide) f11, up (by decide) f12, up (by decide) f13, up (by decide) f14, fun h => (f15 (down (by decide) h)).step (Grown.refl _) (down (by decide)), fun h => (f16 (down (by decide) h)).step (Grown.refl _) (down (by decide)), fun h => (f17 (down (by decide) h)).step (Grown.refl _) (down (by decide)), fun h => Or.inr (f18 (down (by decide) h)), fun h => Or.inr (f19 (down (by decide) h)), fun h => Or.inr (f20 (down (by decide) h)), fun h h' => d15_16 (down (by decide) h) (down (by decide) h'), fun h h' => d15_17 (down (by decide) h) (down (by decide) h'), fun h h' => d16_17 (down (by decide) h) (down (by decide) h')⟩
      · -- 7: addr
        rintro bb aa ww hn hd ⟨u5, u6, u7, u24, u25, u26, u27, u28, u29, u30, u31, u32, u33, u34, u35, u36, u37, u38, rfl, G, f0, f1, f2, f3, f4, f5, f6, f7, f8, f9, f10, f11, f12, f13, f14, f15, f16, f17, f18, f19, f20, d15_16, d15_17, d16_17⟩ K hK
        have HK := Lib.hid hK
        clear hK
        go_simp
        exact HK.out _ _ ⟨_, _, _, _, _, _, _, _, _, _, _, _, _, _, _, _, _, _, rfl, G, up (by decide) f0, up (by decide) f1, up (by decide) f2, up (by decide) f3, up (by decide) f4, up (by decide) f5, up (by decide) f6, fun _ => rfl, up (by decide) f8, up (by decide) f9, up (by decide) f10, up (by decide) f11, up (by decide) f12, up (by decide) f13, up (by decide) f14, fun h => (f15 (down (by decide) h)).step (Grown.refl _) (down (by decide)), fun h => (f16 (down (by decide) h)).step (Grown.refl _) (down (by decide)), fun h => (f17 (down (by decide) h)).step (Grown.refl _) (down (by decide)), fun h => Or.inr (f18 (down (by decide) h)), fun h => Or.inr (f19 (down (by decide) h)), fun h => Or.inr (f20 (down (by decide) h)), fun h h' => d15_16 (down (by decide) h) (down (by decide) h'), fun h h' => d15_17 (down (by decide) h) (down (by decide) h'), fun h h' => d16_17 (down (by decide) h) (down (by decide) h')⟩
      · -- 8: load
        rintro bb aa ww hn hd ⟨u5, u6, u7, u24, u25, u26, u27, u28, u29, u30, u31, u32, u33, u34, u35, u36, u37, u38, rfl, G, f0, f1, f2, f3, f4, f5, f6, f7, f8, f9, f10, f11, f12, f13, f14, f15, f16, f17, f18, f19, f20, d15_16, d15_17, d16_17⟩ K hK
        have b7 : bb 7 := hd ⟨7, .data⟩ (by simp) (by rfl)
        obtain rfl := f7 b7
        have k0 := grownSome G c11
        have HK := Lib.hid hK
        clear hK
        go_simp
        exact HK.out _ _ ⟨_, _, _, _, _, _, _, _, _, _, _, _, _, _, _, _, _, _, rfl, G, up (by decide) f0, up (by decide) f1, up (by decide) f2, up (by decide) f3, up (by decide) f4, up (by decide) f5, up (by decide) f6, fun _ => rfl, fun _ => rfl, up (by decide) f9, up (by decide) f10, up (by decide) f11, up (by decide) f12, up (by decide) f13, up (by decide) f14, fun h => (f15 (down (by decide) h)).step (Grown.refl _) (down (by decide)), fun h => (f16 (down (by decide) h)).step (Grown.refl _) (down (by decide)), fun h => (f17 (down (by decide) h)).step (Grown.refl _) (down (by decide)), fun h => Or.inr (f18 (down (by decide) h)), fun h => Or.inr (f19 (down (by decide) h)), fun h => Or.inr (f20 (down (by decide) h)), fun h h' => d15_16 (down (by decide) h) (down (by decide) h'), fun h h' => d15_17 (down (by decide) h) (down (by decide) h'), fun h h' => d16_17 (down (by decide) h) (down (by decide) h')⟩
      · -- 9: call
        rintro bb aa ww hn hd ⟨u5, u6, u7, u24, u25, u26, u27, u28, u29, u30, u31, u32, u33, u34, u35, u36, u37, u38, rfl, G, f0, f1, f2, f3, f4, f5, f6, f7, f8, f9, f10, f11, f12, f13, f14, f15, f16, f17, f18, f19, f20, d15_16, d15_17, d16_17⟩ K hK
        have b6 : bb 6 := hd ⟨6, .data⟩ (by simp) (by rfl)
        obtain rfl := f6 b6
        have b8 : bb 8 := hd ⟨8, .data⟩ (by simp) (by rfl)
        obtain rfl := f8 b8
        have HK := Lib.hid hK
        clear hK
        go_wp2_with ((go_at_call_of 34 (Value.int IntKind.i8 n1)); ((with_reducible refine (S1.out _).mono ?_); rintro _ w1 ⟨rfl, hg⟩))
        exact HK.out _ _ ⟨_, _, _, _, _, _, _, _, _, _, _, _, _, _, _, _, _, _, rfl, (grownTrans G hg), up (by decide) f0, up (by decide) f1, up (by decide) f2, up (by decide) f3, up (by decide) f4, up (by decide) f5, fun _ => rfl, up (by decide) f7, fun _ => rfl, fun _ => rfl, up (by decide) f10, up (by decide) f11, up (by decide) f12, up (by decide) f13, up (by decide) f14, fun h => (f15 (down (by decide) h)).step hg (down (by decide)), fun h => (f16 (down (by decide) h)).step hg (down (by decide)), fun h => (f17 (down (by decide) h)).step hg (down (by decide)), fun h => Or.inr (f18 (down (by decide) h)), fun h => Or.inr (f19 (down (by decide) h)), fun h => Or.inr (f20 (down (by decide) h)), fun h h' => d15_16 (down (by decide) h) (down (by decide) h'), fun h h' => d15_17 (down (by decide) h) (down (by decide) h'), fun h h' => d16_17 (down (by decide) h) (down (by decide) h')⟩
      · -- 10: addr
        rintro bb aa ww hn hd ⟨u5, u6, u7, u24, u25, u26, u27, u28, u29, u30, u31, u32, u33, u34, u35, u36, u37, u38, rfl, G, f0, f1, f2, f3, f4, f5, f6, f7, f8, f9, f10, f11, f12, f13, f14, f15, f16, f17, f18, f19, f20, d15_16, d15_17, d16_17⟩ K hK
        have HK := Lib.hid hK
        clear hK
        go_simp
        exact HK.out _ _ ⟨_, _, _, _, _, _, _, _, _, _, _, _, _, _, _, _, _, _, rfl, G, up (by decide) f0, up (by decide) f1, up (by decide) f2, up (by decide) f3, up (by decide) f4, up (by decide) f5, up (by decide) f6, up (by decide) f7, up (by decide) f8, up (by decide) f9, fun _ => rfl, up (by decide) f11, up (by decide) f12, up (by decide) f13, up (by decide) f14, fun h => (f15 (down (by decide) h)).step (Grown.refl _) (down (by decide)), fun h => (f16 (down (by decide) h)).step (Grown.refl _) (down (by decide)), fun h => (f17 (down (by decide) h)).step (Grown.refl _) (down (by decide)), fun h => Or.inr (f18 (down (by decide) h)), fun h => Or.inr (f19 (down (by decide) h)), fun h => Or.inr (f20 (down (by decide) h)), fun h h' => d15_16 (down (by decide) h) (down (by decide) h'), fun h h' => d15_17 (down (by decide) h) (down (by decide) h'), fun h h' => d16_17 (down (by decide) h) (down (by decide) h')⟩
      · -- 11: load
        rintro bb aa ww hn hd ⟨u5, u6, u7, u24, u25, u26, u27, u28, u29, u30, u31, u32, u33, u34, u35, u36, u37, u38, rfl, G, f0, f1, f2, f3, f4, f5, f6, f7, f8, f9, f10, f11, f12, f13, f14, f15, f16, f17, f18, f19, f20, d15_16, d15_17, d16_17⟩ K hK
        have b10 : bb 10 := hd ⟨10, .data⟩ (by simp) (by rfl)
        obtain rfl := f10 b10
        have k0 := grownSome G c02
        have HK := Lib.hid hK
        clear hK
        go_simp
        exact HK.out _ _ ⟨_, _, _, _, _, _, _, _, _, _, _, _, _, _, _, _, _, _, rfl, G, up (by decide) f0, up (by decide) f1, up (by decide) f2, up (by decide) f3, up (by decide) f4, up (by decide) f5, up (by decide) f6, up (by decide) f7, up (by decide) f8, up (by decide) f9, fun _ => rfl, fun _ => rfl, up (by decide) f12, up (by decide) f13, up (by decide) f14, fun h => (f15 (down (by decide) h)).step (Grown.refl _) (down (by decide)), fun h => (f16 (down (by decide) h)).step (Grown.refl _) (down (by decide)), fun h => (f17 (down (by decide) h)).step (Grown.refl _) (down (by decide)), fun h => Or.inr (f18 (down (by decide) h)), fun h => Or.inr (f19 (down (by decide) h)), fun h => Or.inr (f20 (down (by decide) h)), fun h h' => d15_16 (down (by decide) h) (down (by decide) h'), fun h h' => d15_17 (down (by decide) h) (down (by decide) h'), fun h h' => d16_17 (down (by decide) h) (down (by decide) h')⟩
      · -- 12: addr
        rintro bb aa ww hn hd ⟨u5, u6, u7, u24, u25, u26, u27, u28, u29, u30, u31, u32, u33, u34, u35, u36, u37, u38, rfl, G, f0, f1, f2, f3, f4, f5, f6, f7, f8, f9, f10, f11, f12, f13, f14, f15, f16, f17, f18, f19, f20, d15_16, d15_17, d16_17⟩ K hK
        have HK := Lib.hid hK
        clear hK
        go_simp
        exact HK.out _ _ ⟨_, _, _, _, _, _, _, _, _, _, _, _, _, _, _, _, _, _, rfl, G, up (by decide) f0, up (by decide) f1, up (by decide) f2, up (by decide) f3, up (by decide) f4, up (by decide) f5, up (by decide) f6, up (by decide) f7, up (by decide) f8, up (by decide) f9, up (by decide) f10, up (by decide) f11, fun _ => rfl, up (by decide) f13, up (by decide) f14, fun h => (f15 (down (by decide) h)).step (Grown.refl _) (down (by decide)), fun h => (f16 (down (by decide) h)).step (Grown.refl _) (down (by decide)), fun h => (f17 (down (by decide) h)).step (Grown.refl _) (down (by decide)), fun h => Or.inr (f18 (down (by decide) h)), fun h => Or.inr (f19 (down (by decide) h)), fun h => Or.inr (f20 (down (by decide) h)), fun h h' => d15_16 (down (by decide) h) (down (by decide) h'), fun h h' => d15_17 (down (by decide) h) (down (by decide) h'), fun h h' => d16_17 (down (by decide) h) (down (by decide) h')⟩
      · -- 13: load
        rintro bb aa ww hn hd ⟨u5, u6, u7, u24, u25, u26, u27, u28, u29, u30, u31, u32, u33, u34, u35, u36, u37, u38, rfl, G, f0, f1, f2, f3, f4, f5, f6, f7, f8, f9, f10, f11, f12, f13, f14, f15, f16, f17, f18, f19, f20, d15_16, d15_17, d16_17⟩ K hK
        have b12 : bb 12 := hd ⟨12, .data⟩ (by simp) (by rfl)
        obtain rfl := f12 b12
        have k0 := grownSome G c12
        have HK := Lib.hid hK
        clear hK
        go_simp
        exact HK.out _ _ ⟨_, _, _, _, _, _, _, _, _, _, _, _, _, _, _, _, _, _, rfl, G, up (by decide) f0, up (by decide) f1, up (by decide) f2, up (by decide) f3, up (by decide) f4, up (by decide) f5, up (by decide) f6, up (by decide) f7, up (by decide) f8, up (by decide) f9, up (by decide) f10, up (by decide) f11, fun _ => rfl, fun _ => rfl, up (by decide) f14, fun h => (f15 (down (by decide) h)).step (Grown.refl _) (down (by decide)), fun h => (f16 (down (by decide) h)).step (Grown.refl _) (down (by decide)), fun h => (f17 (down (by decide) h)).step (Grown.refl _) (down (by decide)), fun h => Or.inr (f18 (down (by decide) h)), fun h => Or.inr (f19 (down (by decide) h)), fun h => Or.inr (f20 (down (by decide) h)), fun h h' => d15_16 (down (by decide) h) (down (by decide) h'), fun h h' => d15_17 (down (by decide) h) (down (by decide) h'), fun h h' => d16_17 (down (by decide) h) (down (by decide) h')⟩
      · -- 14: call
        rintro bb aa ww hn hd ⟨u5, u6, u7, u24, u25, u26, u27, u28, u29, u30, u31, u32, u33, u34, u35, u36, u37, u38, rfl, G, f0, f1, f2, f3, f4, f5, f6, f7, f8, f9, f10, f11, f12, f13, f14, f15, f16, f17, f18, f19, f20, d15_16, d15_17, d16_17⟩ K hK
        have b11 : bb 11 := hd ⟨11, .data⟩ (by simp) (by rfl)
        obtain rfl := f11 b11
        have b13 : bb 13 := hd ⟨13, .data⟩ (by simp) (by rfl)
        obtain rfl := f13 b13
        have HK := Lib.hid hK
        clear hK
        go_wp2_with ((go_at_call_of 34 (Value.int IntKind.i8 n2)); ((with_reducible refine (S2.out _).mono ?_); rintro _ w1 ⟨rfl, hg⟩))
        exact HK.out _ _ ⟨_, _, _, _, _, _, _, _, _, _, _, _, _, _, _, _, _, _, rfl, (grownTrans G hg), up (by decide) f0, up (by decide) f1, up (by decide) f2, up (by decide) f3, up (by decide) f4, up (by decide) f5, up (by decide) f6, up (by decide) f7, up (by decide) f8, up (by decide) f9, up (by decide) f10, fun _ => rfl, up (by decide) f12, fun _ => rfl, fun _ => rfl, fun h => (f15 (down (by decide) h)).step hg (down (by decide)), fun h => (f16 (down (by decide) h)).step hg (down (by decide)), fun h => (f17 (down (by decide) h)).step hg (down (by decide)), fun h => Or.inr (f18 (down (by decide) h)), fun h => Or.inr (f19 (down (by decide) h)), fun h => Or.inr (f20 (down (by decide) h)), fun h h' => d15_16 (down (by decide) h) (down (by decide) h'), fun h h' => d15_17 (down (by decide) h) (down (by decide) h'), fun h h' => d16_17 (down (by decide) h) (down (by decide) h')⟩
      · -- 15: alloc
        rintro bb aa ww hn hd ⟨u5, u6, u7, u24, u25, u26, u27, u28, u29, u30, u31, u32, u33, u34, u35, u36, u37, u38, rfl, G, f0, f1, f2, f3, f4, f5, f6, f7, f8, f9, f10, f11, f12, f13, f14, f15, f16, f17, f18, f19, f20, d15_16, d15_17, d16_17⟩ K hK
        have HK := Lib.hid hK
        clear hK
        go_simp
        exact HK.out _ _ ⟨_, _, _, _, _, _, _, _, _, _, _, _, _, _, _, _, _, _, rfl, (Grown.alloc G _ _), up (by decide) f0, up (by decide) f1, up (by decide) f2, up (by decide) f3, up (by decide) f4, up (by decide) f5, up (by decide) f6, up (by decide) f7, up (by decide) f8, up (by decide) f9, up (by decide) f10, up (by decide) f11, up (by decide) f12, up (by decide) f13, up (by decide) f14, fun _ => VarAt.new G (fun h => hn (f18 (h.resolve_left (by decide)))), fun h => (f16 (down (by decide) h)).step (Grown.alloc (Grown.refl _) _ _) (down (by decide)), fun h => (f17 (down (by decide) h)).step (Grown.alloc (Grown.refl _) _ _) (down (by decide)), fun _ => Or.inl rfl, fun h => Or.inr (f19 (down (by decide) h)), fun h => Or.inr (f20 (down (by decide) h)), fun _ h => (f16 (down (by decide) h)).apartNew.symm, fun _ h => (f17 (down (by decide) h)).apartNew.symm, fun h h' => d16_17 (down (by decide) h) (down (by decide) h')⟩
      · -- 16: alloc
        rintro bb aa ww hn hd ⟨u5, u6, u7, u24, u25, u26, u27, u28, u29, u30, u31, u32, u33, u34, u35, u36, u37, u38, rfl, G, f0, f1, f2, f3, f4, f5, f6, f7, f8, f9, f10, f11, f12, f13, f14, f15, f16, f17, f18, f19, f20, d15_16, d15_17, d16_17⟩ K hK
        have HK := Lib.hid hK
        clear hK
        go_simp
        exact HK.out _ _ ⟨_, _, _, _, _, _, _, _, _, _, _, _, _, _, _, _, _, _, rfl, (Grown.alloc G _ _), up (by decide) f0, up (by decide) f1, up (by decide) f2, up (by decide) f3, up (by decide) f4, up (by decide) f5, up (by decide) f6, up (by decide) f7, up (by decide) f8, up (by decide) f9, up (by decide) f10, up (by decide) f11, up (by decide) f12, up (by decide) f13, up (by decide) f14, fun h => (f15 (down (by decide) h)).step (Grown.alloc (Grown.refl _) _ _) (down (by decide)), fun _ => VarAt.new G (fun h => hn (f19 (h.resolve_left (by decide)))), fun h => (f17 (down (by decide) h)).step (Grown.alloc (Grown.refl _) _ _) (down (by decide)), fun h => Or.inr (f18 (down (by decide) h)), fun _ => Or.inl rfl, fun h => Or.inr (f20 (down (by decide) h)), fun h _ => (f15 (down (by decide) h)).apartNew, fun h h' => d15_17 (down (by decide) h) (down (by decide) h'), fun _ h => (f17 (down (by decide) h)).apartNew.symm⟩
      · -- 17: alloc
        rintro bb aa ww hn hd ⟨u5, u6, u7, u24, u25, u26, u27, u28, u29, u30, u31, u32, u33, u34, u35, u36, u37, u38, rfl, G, f0, f1, f2, f3, f4, f5, f6, f7, f8, f9, f10, f11, f12, f13, f14, f15, f16, f17, f18, f19, f20, d15_16, d15_17, d16_17⟩ K hK
        have HK := Lib.hid hK
        clear hK
        go_simp
        exact HK.out _ _ ⟨_, _, _, _, _, _, _, _, _, _, _, _, _, _, _, _, _, _, rfl, (Grown.alloc G _ _), up (by decide) f0, up (by decide) f1, up (by decide) f2, up (by decide) f3, up (by decide) f4, up (by decide) f5, up (by decide) f6, up (by decide) f7, up (by decide) f8, up (by decide) f9, up (by decide) f10, up (by decide) f11, up (by decide) f12, up (by decide) f13, up (by decide) f14, fun h => (f15 (down (by decide) h)).step (Grown.alloc (Grown.refl _) _ _) (down (by decide)), fun h => (f16 (down (by decide) h)).step (Grown.alloc (Grown.refl _) _ _) (down (by decide)), fun _ => VarAt.new G (fun h => hn (f20 (h.resolve_left (by decide)))), fun h => Or.inr (f18 (down (by decide) h)), fun h => Or.inr (f19 (down (by decide) h)), fun _ => Or.inl rfl, fun h h' => d15_16 (down (by decide) h) (down (by decide) h'), fun h _ => (f15 (down (by decide) h)).apartNew, fun h _ => (f16 (down (by decide) h)).apartNew⟩
      · -- 18: store
        rintro bb aa ww hn hd ⟨u5, u6, u7, u24, u25, u26, u27, u28, u29, u30, u31, u32, u33, u34, u35, u36, u37, u38, rfl, G, f0, f1, f2, f3, f4, f5, f6, f7, f8, f9, f10, f11, f12, f13, f14, f15, f16, f17, f18, f19, f20, d15_16, d15_17, d16_17⟩ K hK
        have b15 : bb 15 := hd ⟨15, .data⟩ (by simp) (by rfl)
        have b4 : bb 4 := hd ⟨4, .data⟩ (by simp) (by rfl)
        obtain rfl := f4 b4
        obtain ⟨X, c0, c1, rfl, hX, ⟨hc0, hc1⟩, ⟨hf0, hf1⟩, -⟩ := f15 b15
        have HK := Lib.hid hK
        clear hK
        go_simp
        exact HK.out _ _ ⟨_, _, _, _, _, _, _, _, _, _, _, _, _, _, _, _, _, _, rfl, ((G.setCell hX _).setCell hX _), up (by decide) f0, up (by decide) f1, up (by decide) f2, up (by decide) f3, fun _ => rfl, up (by decide) f5, up (by decide) f6, up (by decide) f7, up (by decide) f8, up (by decide) f9, up (by decide) f10, up (by decide) f11, up (by decide) f12, up (by decide) f13, up (by decide) f14, fun _ => VarAt.here hX hc0 hc1 hf0 hf1, fun h => (f16 (down (by decide) h)).other ((d15_16 b15 (down (by decide) h)).symm) (down (by decide)), fun h => (f17 (down (by decide) h)).other ((d15_17 b15 (down (by decide) h)).symm) (down (by decide)), fun _ => Or.inr b15, fun h => Or.inr (f19 (down (by decide) h)), fun h => Or.inr (f20 (down (by decide) h)), fun h h' => d15_16 (down (by decide) h) (down (by decide) h'), fun h h' => d15_17 (down (by decide) h) (down (by decide) h'), fun h h' => d16_17 (down (by decide) h) (down (by decide) h')⟩
      · -- 19: store
        rintro bb aa ww hn hd ⟨u5, u6, u7, u24, u25, u26, u27, u28, u29, u30, u31, u32, u33, u34, u35, u36, u37, u38, rfl, G, f0, f1, f2, f3, f4, f5, f6, f7, f8, f9, f10, f11, f12, f13, f14, f15, f16, f17, f18, f19, f20, d15_16, d15_17, d16_17⟩ K hK
        have b16 : bb 16 := hd ⟨16, .data⟩ (by simp) (by rfl)
        have b9 : bb 9 := hd ⟨9, .data⟩ (by simp) (by rfl)
        obtain rfl := f9 b9
        obtain ⟨X, c0, c1, rfl, hX, ⟨hc0, hc1⟩, ⟨hf0, hf1⟩, -⟩ := f16 b16
        have HK := Lib.hid hK
        clear hK
        go_simp
        exact HK.out _ _ ⟨_, _, _, _, _, _, _, _, _, _, _, _, _, _, _, _, _, _, rfl, ((G.setCell hX _).setCell hX _), up (by decide) f0, up (by decide) f1, up (by decide) f2, up (by decide) f3, up (by decide) f4, up (by decide) f5, up (by decide) f6, up (by decide) f7, up (by decide) f8, fun _ => rfl, up (by decide) f10, up (by decide) f11, up (by decide) f12, up (by decide) f13, up (by decide) f14, fun h => (f15 (down (by decide) h)).other (d15_16 (down (by decide) h) b16) (down (by decide)), fun _ => VarAt.here hX hc0 hc1 hf0 hf1, fun h => (f17 (down (by decide) h)).other ((d16_17 b16 (down (by decide) h)).symm) (down (by decide)), fun h => Or.inr (f18 (down (by decide) h)), fun _ => Or.inr b16, fun h => Or.inr (f20 (down (by decide) h)), fun h h' => d15_16 (down (by decide) h) (down (by decide) h'), fun h h' => d15_17 (down (by decide) h) (down (by decide) h'), fun h h' => d16_17 (down (by decide) h) (down (by decide) h')⟩
      · -- 20: store
        rintro bb aa ww hn hd ⟨u5, u6, u7, u24, u25, u26, u27, u28, u29, u30, u31, u32, u33, u34, u35, u36, u37, u38, rfl, G, f0, f1, f2, f3, f4, f5, f6, f7, f8, f9, f10, f11, f12, f13, f14, f15, f16, f17, f18, f19, f20, d15_16, d15_17, d16_17⟩ K hK
        have b17 : bb 17 := hd ⟨17, .data⟩ (by simp) (by rfl)
        have b14 : bb 14 := hd ⟨14, .data⟩ (by simp) (by rfl)
        obtain rfl := f14 b14
        obtain ⟨X, c0, c1, rfl, hX, ⟨hc0, hc1⟩, ⟨hf0, hf1⟩, -⟩ := f17 b17
        have HK := Lib.hid hK
        clear hK
        go_simp
        exact HK.out _ _ ⟨_, _, _, _, _, _, _, _, _, _, _, _, _, _, _, _, _, _, rfl, ((G.setCell hX _).setCell hX _), up (by decide) f0, up (by decide) f1, up (by decide) f2, up (by decide) f3, up (by decide) f4, up (by decide) f5, up (by decide) f6, up (by decide) f7, up (by decide) f8, up (by decide) f9, up (by decide) f10, up (by decide) f11, up (by decide) f12, up (by decide) f13, fun _ => rfl, fun h => (f15 (down (by decide) h)).other (d15_17 (down (by decide) h) b17) (down (by decide)), fun h => (f16 (down (by decide) h)).other (d16_17 (down (by decide) h) b17) (down (by decide)), fun _ => VarAt.here hX hc0 hc1 hf0 hf1, fun h => Or.inr (f18 (down (by decide) h)), fun h => Or.inr (f19 (down (by decide) h)), fun _ => Or.inr b17, fun h h' => d15_16 (down (by decide) h) (down (by decide) h'), fun h h' => d15_17 (down (by decide) h) (down (by decide) h'), fun h h' => d16_17 (down (by decide) h) (down (by decide) h')⟩
  case rest =>
  obtain ⟨B5, B6, B7, rfl, rfl, rfl, c5_0_0, c5_1_0, c6_0_0, c6_1_0, c7_0_0, c7_1_0, GX⟩ := hcut
  have G0 : Hid (Grown w wc) := Lib.hid (grownTrans GW.out GX)
  clear c00 c01 c02 c10 c11 c12 GW GX
  have HT0 : Hid (Tab wc) := Lib.hid (HT.out.grown G0.out)
  go_wp2_with fail
  go_at_call 24
  refine (cmp_is' a1 a2 b1 b2 (x, 0) E1.out _ HT0.out).mono ?_
  rintro _ w1 ⟨rfl, hg1⟩
  have G1 : Hid (Grown w w1) := Lib.hid (grownTrans G0.out hg1)
  have K1 := Lib.hid hg1
  have c5_0_1 := grownSome K1.out c5_0_0
  have c5_1_1 := grownSome K1.out c5_1_0
  have c6_0_1 := grownSome K1.out c6_0_0
  have c6_1_1 := grownSome K1.out c6_1_0
  have c7_0_1 := grownSome K1.out c7_0_0
  have c7_1_1 := grownSome K1.out c7_1_0
  clear c5_0_0 c5_1_0 c6_0_0 c6_1_0 c7_0_0 c7_1_0
  clear hg1 K1
  have HT1 : Hid (Tab w1) := Lib.hid (HT.out.grown G1.out)
  go_wp2_with fail
  go_at_call 24
  refine (cmp_is' b1 b2 a1 a2 (-x, 0) E2.out _ HT1.out).mono ?_
  rintro _ w2 ⟨rfl, hg2⟩
  have G2 : Hid (Grown w w2) := Lib.hid (grownTrans G1.out hg2)
  have K2 := Lib.hid hg2
  have c5_0_2 := grownSome K2.out c5_0_1
  have c5_1_2 := grownSome K2.out c5_1_1
  have c6_0_2 := grownSome K2.out c6_0_1
  have c6_1_2 := grownSome K2.out c6_1_1
  have c7_0_2 := grownSome K2.out c7_0_1
  have c7_1_2 := grownSome K2.out c7_1_1
  clear c5_0_1 c5_1_1 c6_0_1 c6_1_1 c7_0_1 c7_1_1
  clear hg2 K2
  clear HT1
  have HT2 : Hid (Tab w2) := Lib.hid (HT.out.grown G2.out)
  go_wp2_with fail
  go_at_call 24
  refine (cmp_is' b1 b2 c1 c2 (y, 0) E3.out _ HT2.out).mono ?_
  rintro _ w3 ⟨rfl, hg3⟩
  have G3 : Hid (Grown w w3) := Lib.hid (grownTrans G2.out hg3)
  have K3 := Lib.hid hg3
  have c5_0_3 := grownSome K3.out c5_0_2
  have c5_1_3 := grownSome K3.out c5_1_2
  have c6_0_3 := grownSome K3.out c6_0_2
  have c6_1_3 := grownSome K3.out c6_1_2
  have c7_0_3 := grownSome K3.out c7_0_2
  have c7_1_3 := grownSome K3.out c7_1_2
  clear c5_0_2 c5_1_2 c6_0_2 c6_1_2 c7_0_2 c7_1_2
  clear hg3 K3
  clear HT2
  have HT3 : Hid (Tab w3) := Lib.hid (HT.out.grown G3.out)
  go_wp2_with fail
  go_at_call 24
  refine (cmp_is' a1 a2 c1 c2 (z, 0) E4.out _ HT3.out).mono ?_
  rintro _ w4 ⟨rfl, hg4⟩
  have G4 : Hid (Grown w w4) := Lib.hid (grownTrans G3.out hg4)
  have K4 := Lib.hid hg4
  have c5_0_4 := grownSome K4.out c5_0_3
  have c5_1_4 := grownSome K4.out c5_1_3
  have c6_0_4 := grownSome K4.out c6_0_3
  have c6_1_4 := grownSome K4.out c6_1_3
  have c7_0_4 := grownSome K4.out c7_0_3
  have c7_1_4 := grownSome K4.out c7_1_3
  clear c5_0_3 c5_1_3 c6_0_3 c6_1_3 c7_0_3 c7_1_3
  clear hg4 K4
  clear HT3
  have HT4 : Hid (Tab w4) := Lib.hid (HT.out.grown G4.out)
  go_wp2_with fail
  go_at_call 18
  refine (sub_is a1 a2 b1 b2 (p, q, 0) E5.out _ HT4.out).mono ?_
  rintro _ w5 ⟨rfl, hg5⟩
  have G5 : Hid (Grown w w5) := Lib.hid (grownTrans G4.out hg5)
  have K5 := Lib.hid hg5
  have c5_0_5 := grownSome K5.out c5_0_4
  have c5_1_5 := grownSome K5.out c5_1_4
  have c6_0_5 := grownSome K5.out c6_0_4
  have c6_1_5 := grownSome K5.out c6_1_4
  have c7_0_5 := grownSome K5.out c7_0_4
  have c7_1_5 := grownSome K5.out c7_1_4
  clear c5_0_4 c5_1_4 c6_0_4 c6_1_4 c7_0_4 c7_1_4
  clear hg5 K5
  clear HT4
  have HT5 : Hid (Tab w5) := Lib.hid (HT.out.grown G5.out)
  have m5_16 : B5 < w5.heap.size := cellBlock c5_0_5
  have l5_16 : ¬ B5 = w5.heap.size := blkNe c5_0_5
  have l16_5 : ¬ w5.heap.size = B5 := fun h => l5_16 h.symm
  have m6_16 : B6 < w5.heap.size := cellBlock c6_0_5
  have l6_16 : ¬ B6 = w5.heap.size := blkNe c6_0_5
  have l16_6 : ¬ w5.heap.size = B6 := fun h => l6_16 h.symm
  have m7_16 : B7 < w5.heap.size := cellBlock c7_0_5
  have l7_16 : ¬ B7 = w5.heap.size := blkNe c7_0_5
  have l16_7 : ¬ w5.heap.size = B7 := fun h => l7_16 h.symm
  go_wp2_with fail
  go_at_call 30
  refine (floor_is a1 a2 (l, 0) E6.out _ (HT.out.grown (Grown.alloc G5.out _ _))).mono ?_
  rintro _ w6 ⟨rfl, hg6⟩
  obtain ⟨G6, c16_0_6, c16_1_6, K6⟩ := fracKeep G5.out hg6
  have c5_0_6 := grownSome K6.out c5_0_5
  have c5_1_6 := grownSome K6.out c5_1_5
  have c6_0_6 := grownSome K6.out c6_0_5
  have c6_1_6 := grownSome K6.out c6_1_5
  have c7_0_6 := grownSome K6.out c7_0_5
  have c7_1_6 := grownSome K6.out c7_1_5
  clear c5_0_5 c5_1_5 c6_0_5 c6_1_5 c7_0_5 c7_1_5
  clear hg6 K6
  clear HT5
  have HT6 : Hid (Tab w6) := Lib.hid (HT.out.grown G6.out)
  generalize w5.heap.size = B16 at *
  go_wp2_with fail
  go_at_call 32
  refine (ceil_is a1 a2 (h, 0) E7.out _ HT6.out).mono ?_
  rintro _ w7 ⟨rfl, hg7⟩
  have G7 : Hid (Grown w w7) := Lib.hid (grownTrans G6.out hg7)
  have K7 := Lib.hid hg7
  have c5_0_7 := grownSome K7.out c5_0_6
  have c5_1_7 := grownSome K7.out c5_1_6
  have c6_0_7 := grownSome K7.out c6_0_6
  have c6_1_7 := grownSome K7.out c6_1_6
  have c7_0_7 := grownSome K7.out c7_0_6
  have c7_1_7 := grownSome K7.out c7_1_6
  have c16_0_7 := grownSome K7.out c16_0_6
  have c16_1_7 := grownSome K7.out c16_1_6
  clear c5_0_6 c5_1_6 c6_0_6 c6_1_6 c7_0_6 c7_1_6 c16_0_6 c16_1_6
  clear hg7 K7
  clear HT6
  have HT7 : Hid (Tab w7) := Lib.hid (HT.out.grown G7.out)
  go_upto_region 11 with fail
  have k1 := K1.out
  have k2 := K2.out
  have hhl : (h = l ∧ a2 = 1) ∨ (l < h ∧ h ≤ l + 1 ∧ ¬ a2 = 1) := by rcases HHL.out with ⟨e, k⟩ | ⟨e, k⟩ <;> omega
  have hx : (x = -1 ∧ p < 0 ∧ (y ≤ 0 → z ≤ 0) ∧ ((a1 = b1 ∧ ¬ a2 = b2) ∨ ¬ a1 = b1)) ∨ (x = 0 ∧ (y ≤ 0 → z ≤ 0) ∧ a1 = b1 ∧ a2 = b2) ∨ (x = 1 ∧ 0 < p ∧ ((a1 = b1 ∧ ¬ a2 = b2) ∨ ¬ a1 = b1)) := by
    have h1 := HEQ.out
    have h2 := HTR.out
    have h3 : ¬ x = 0 → (a1 = b1 ∧ ¬ a2 = b2) ∨ ¬ a1 = b1 := fun n => by
      by_cases e : a1 = b1
      · exact Or.inl ⟨e, fun e' => n (h1.2 ⟨e, e'⟩)⟩
      · exact Or.inr e
    rcases HS.out with ⟨e, k⟩ | e | ⟨e, k⟩
    · exact Or.inl ⟨e, k, h2 (by omega), h3 (by omega)⟩
    · exact Or.inr (Or.inl ⟨e, h2 (by omega), h1.1 e⟩)
    · exact Or.inr (Or.inr ⟨e, k, h3 (by omega)⟩)
  clear HEQ HS HTR HHL E1 E2 E3 E4 E5 E6 E7 K1 K2
  have hlb : a2 = 1 → l ≤ a1 ∧ a1 ≤ h := fun e => by
    have h1 := LB.out.1
    have h2 := LB.out.2
    subst e
    rcases hhl with ⟨e, -⟩ | ⟨-, -, k⟩ <;> omega
  have HLB := Lib.hid hlb
  have HX := Lib.hid hx
  have HHL := Lib.hid hhl
  clear hlb LB hhl hx
  go_cut [118] (fun v wx => v = .bool false ∧ wx = w7)
  case first =>
    rcases HX.out with ⟨rfl, -, -, ⟨rfl, hne⟩ | hne⟩ | ⟨rfl, -, rfl, rfl⟩ | ⟨rfl, -, ⟨rfl, hne⟩ | hne⟩
    all_goals (go_wp2_with fail; go_meet)
    all_goals exact ⟨rfl, rfl⟩
  case rest =>
  obtain ⟨rfl, hW⟩ := hcut
  subst hW
  go_upto_region 13 with fail
  go_cut [146] (fun v wx => v = .bool false ∧ wx = wc)
  case first =>
    have hx : (x = -1 ∧ p < 0 ∧ ((y ≤ 0 ∧ z ≤ 0) ∨ 0 < y)) ∨ (x = 0 ∧ ((y ≤ 0 ∧ z ≤ 0) ∨ 0 < y)) ∨ (x = 1 ∧ 0 < p) := by
      rcases HX.out with ⟨e, k, t, -⟩ | ⟨e, t, -⟩ | ⟨e, k, -⟩ <;> omega
    clear HX HLB HHL
    rcases hx with ⟨rfl, hp, ⟨hy, hz⟩ | hy⟩ | ⟨rfl, ⟨hy, hz⟩ | hy⟩ | ⟨rfl, hp⟩
    all_goals (go_wp2_with fail; go_meet)
    all_goals first | exact ⟨rfl, rfl⟩ | exact ⟨by simp; omega, rfl⟩
  case rest =>
  obtain ⟨rfl, hW⟩ := hcut
  subst hW
  rcases HHL.out with ⟨rfl, ea⟩ | ⟨hl1, hl2, ea⟩
  · have hh := HLB.out ea
    clear HLB HHL HX
    subst ea
    go_wp2_with fail
    go_ret
    exact ⟨rfl, G7.out⟩
  · clear HLB HHL HX
    have hq : (h == l) = false := by simp; omega
    have hq2 : (a2 == 1) = false := by simp; omega
    go_wp2_with fail
    go_ret
    exact ⟨rfl, G7.out⟩

/-- For all small fractions. -/
theorem order_true (n0 n1 n2 d0 d1 d2 : Int) (hn0 : -128 ≤ n0 ∧ n0 ≤ 127) (hn1 : -128 ≤ n1 ∧ n1 ≤ 127) (hn2 : -128 ≤ n2 ∧ n2 ≤ 127) (hd0 : 0 ≤ d0 ∧ d0 ≤ 255) (hd1 : 0 ≤ d1 ∧ d1 ≤ 255) (hd2 : 0 ≤ d2 ∧ d2 ≤ 255) (w : World) (hT : Tab w) :
    Calls Tryd.prog 7 #[.agg #[.int .i8 n0, .int .i8 n1, .int .i8 n2], .agg #[.int .u8 d0, .int .u8 d1, .int .u8 d2]] w fun e w' => e = .returned (.bool true) ∧ Grown w w' := by
  obtain ⟨a1, a2, ha, S0⟩ := small_ex n0 d0 hn0 hd0
  obtain ⟨b1, b2, hb, S1⟩ := small_ex n1 d1 hn1 hd1
  obtain ⟨c1, c2, hc, S2⟩ := small_ex n2 d2 hn2 hd2
  exact order_walk n0 n1 n2 d0 d1 d2 a1 a2 b1 b2 c1 c2 w hT ha hb hc S0 S1 S2

end Go.Proofs.YtiibpdameldblaaDoor
