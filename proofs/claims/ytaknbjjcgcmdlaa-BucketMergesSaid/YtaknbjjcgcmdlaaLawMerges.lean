/- BucketMerges' walk: two conforming traces merged conform with the buckets' sum, and a part of a conforming trace conforms. Written by genmerges5.py. -/
import Derived.Test.YtaknbjjcgcmdlaaMergesL
namespace Go.Proofs.Ytaknbjjcgcmdlaa
open Go Go.RowKit

set_option maxRecDepth 100000 in
set_option maxHeartbeats 8000000 in
theorem merges_walk (B1 R1 X1 Y1 P1 Q1 : Int) (ga1 sa1 : Option Addr) (gl1 gc1 sl1 sc1 : Nat) (gs1 ss1 : List Int) (l1 x1 : List (Int × Int)) (B2 R2 X2 Y2 P2 Q2 : Int) (ga2 sa2 : Option Addr) (gl2 gc2 sl2 sc2 : Nat) (gs2 ss2 : List Int) (l2 x2 : List (Int × Int)) (pa : Option Addr) (pn pc : Nat) (pf : Nat → Bool) (w : World) (hD1 : Hid (DraftAt w (.agg #[.int .u32 B1, .int .u32 R1, .slice ga1 gl1 gc1, .slice sa1 sl1 sc1]) B1 R1 gs1 ss1)) (HX1 : Hid (bOf B1 = X1)) (HY1 : Hid (rOf R1 = Y1)) (hP1 : 1 + X1 / 2 = P1) (hQ1 : 1 + Y1 / 4 = Q1) (bX1 : 1 ≤ X1 ∧ X1 ≤ 1048576) (bY1 : 1 ≤ Y1 ∧ Y1 ≤ 2097152) (Hl1 : Hid (traceD gs1 ss1 (min ss1.length 30) = l1)) (Hx1 : Hid (confL P1 Q1 l1 = x1)) (ok1 : Hid (okT x1 = true)) (ln1 : x1.length ≤ 30) (hD2 : Hid (DraftAt w (.agg #[.int .u32 B2, .int .u32 R2, .slice ga2 gl2 gc2, .slice sa2 sl2 sc2]) B2 R2 gs2 ss2)) (HX2 : Hid (bOf B2 = X2)) (HY2 : Hid (rOf R2 = Y2)) (hP2 : 1 + X2 / 2 = P2) (hQ2 : 1 + Y2 / 4 = Q2) (bX2 : 1 ≤ X2 ∧ X2 ≤ 1048576) (bY2 : 1 ≤ Y2 ∧ Y2 ≤ 2097152) (Hl2 : Hid (traceD gs2 ss2 (min ss2.length 30) = l2)) (Hx2 : Hid (confL P2 Q2 l2 = x2)) (ok2 : Hid (okT x2 = true)) (ln2 : x2.length ≤ 30) (hPk : Hid (BoolsAt w pa pn pf)) :
    Calls Try.prog 3 #[.agg #[(.int .u32 B1), (.int .u32 R1), (.slice ga1 gl1 gc1), (.slice sa1 sl1 sc1), (.int .u32 B2), (.int .u32 R2), (.slice ga2 gl2 gc2), (.slice sa2 sl2 sc2)], .slice pa pn pc] w (Res (.bool true) w) := by
  have d0 : (w.alloc (.cells #[(.int .u32 B1), (.int .u32 R1), (.slice ga1 gl1 gc1), (.slice sa1 sl1 sc1), (.int .u32 B2), (.int .u32 R2), (.slice ga2 gl2 gc2), (.slice sa2 sl2 sc2)] 26)).cell? ⟨w.heap.size, 0, none⟩ = some (.int .u32 B1) := by simp [go_sem]
  have d1 : (w.alloc (.cells #[(.int .u32 B1), (.int .u32 R1), (.slice ga1 gl1 gc1), (.slice sa1 sl1 sc1), (.int .u32 B2), (.int .u32 R2), (.slice ga2 gl2 gc2), (.slice sa2 sl2 sc2)] 26)).cell? ⟨w.heap.size, 1, none⟩ = some (.int .u32 R1) := by simp [go_sem]
  have d2 : (w.alloc (.cells #[(.int .u32 B1), (.int .u32 R1), (.slice ga1 gl1 gc1), (.slice sa1 sl1 sc1), (.int .u32 B2), (.int .u32 R2), (.slice ga2 gl2 gc2), (.slice sa2 sl2 sc2)] 26)).cell? ⟨w.heap.size, 2, none⟩ = some (.slice ga1 gl1 gc1) := by simp [go_sem]
  have d3 : (w.alloc (.cells #[(.int .u32 B1), (.int .u32 R1), (.slice ga1 gl1 gc1), (.slice sa1 sl1 sc1), (.int .u32 B2), (.int .u32 R2), (.slice ga2 gl2 gc2), (.slice sa2 sl2 sc2)] 26)).cell? ⟨w.heap.size, 3, none⟩ = some (.slice sa1 sl1 sc1) := by simp [go_sem]
  have d4 : (w.alloc (.cells #[(.int .u32 B1), (.int .u32 R1), (.slice ga1 gl1 gc1), (.slice sa1 sl1 sc1), (.int .u32 B2), (.int .u32 R2), (.slice ga2 gl2 gc2), (.slice sa2 sl2 sc2)] 26)).cell? ⟨w.heap.size, 4, none⟩ = some (.int .u32 B2) := by simp [go_sem]
  have d5 : (w.alloc (.cells #[(.int .u32 B1), (.int .u32 R1), (.slice ga1 gl1 gc1), (.slice sa1 sl1 sc1), (.int .u32 B2), (.int .u32 R2), (.slice ga2 gl2 gc2), (.slice sa2 sl2 sc2)] 26)).cell? ⟨w.heap.size, 5, none⟩ = some (.int .u32 R2) := by simp [go_sem]
  have d6 : (w.alloc (.cells #[(.int .u32 B1), (.int .u32 R1), (.slice ga1 gl1 gc1), (.slice sa1 sl1 sc1), (.int .u32 B2), (.int .u32 R2), (.slice ga2 gl2 gc2), (.slice sa2 sl2 sc2)] 26)).cell? ⟨w.heap.size, 6, none⟩ = some (.slice ga2 gl2 gc2) := by simp [go_sem]
  have d7 : (w.alloc (.cells #[(.int .u32 B1), (.int .u32 R1), (.slice ga1 gl1 gc1), (.slice sa1 sl1 sc1), (.int .u32 B2), (.int .u32 R2), (.slice ga2 gl2 gc2), (.slice sa2 sl2 sc2)] 26)).cell? ⟨w.heap.size, 7, none⟩ = some (.slice sa2 sl2 sc2) := by simp [go_sem]
  have KK := Lib.hid (Keep.alloc (Keep.refl w) (.cells #[(.int .u32 B1), (.int .u32 R1), (.slice ga1 gl1 gc1), (.slice sa1 sl1 sc1), (.int .u32 B2), (.int .u32 R2), (.slice ga2 gl2 gc2), (.slice sa2 sl2 sc2)] 26))
  have HD1 := Lib.hid (hD1.out.keep KK.out)
  have HD2 := Lib.hid (hD2.out.keep KK.out)
  have z0 : ∀ j, (w.alloc (.cells #[(.int .u32 B1), (.int .u32 R1), (.slice ga1 gl1 gc1), (.slice sa1 sl1 sc1), (.int .u32 B2), (.int .u32 R2), (.slice ga2 gl2 gc2), (.slice sa2 sl2 sc2)] 26)).frozen? ⟨w.heap.size, j, none⟩ = false := fun j => by simp [go_sem]
  go_enter Try.func3, Try.ntmps3
  go_upto_region 3 with (go_at_call 4; ((with_reducible refine (works_yes _).mono ?_); rintro _ w1 ⟨rfl, hk⟩; replace z0 := fun j => (hk.frozen (o := j) (cellBlock d0)).trans (z0 j); replace KK := Lib.hid (KK.out.trans hk); replace HD1 := Lib.hid (HD1.out.keep hk); replace HD2 := Lib.hid (HD2.out.keep hk); have d0 := hk.some d0; have d1 := hk.some d1; have d2 := hk.some d2; have d3 := hk.some d3; have d4 := hk.some d4; have d5 := hk.some d5; have d6 := hk.some d6; have d7 := hk.some d7))
  have hNb := cellBlock d0
  have KK0 := Lib.hid KK.out
  have HD0 : Hid (w1.cell? ⟨w.heap.size, 0, none⟩ = some (.int .u32 B1) ∧ w1.cell? ⟨w.heap.size, 1, none⟩ = some (.int .u32 R1) ∧ w1.cell? ⟨w.heap.size, 2, none⟩ = some (.slice ga1 gl1 gc1) ∧ w1.cell? ⟨w.heap.size, 3, none⟩ = some (.slice sa1 sl1 sc1) ∧ w1.cell? ⟨w.heap.size, 4, none⟩ = some (.int .u32 B2) ∧ w1.cell? ⟨w.heap.size, 5, none⟩ = some (.int .u32 R2) ∧ w1.cell? ⟨w.heap.size, 6, none⟩ = some (.slice ga2 gl2 gc2) ∧ w1.cell? ⟨w.heap.size, 7, none⟩ = some (.slice sa2 sl2 sc2)) := Lib.hid ⟨d0, d1, d2, d3, d4, d5, d6, d7⟩
  have Z0 := Lib.hid z0
  have KK0' := hNb
  obtain ⟨N0, hN⟩ : ∃ n, w.heap.size = n := ⟨_, rfl⟩
  rw [hN] at HD0 Z0 hNb d0 d1 d2 d3 d4 d5 d6 d7 ⊢
  clear z0 KK0 KK0'
  have HN := Lib.hid hN
  go_cut [5, 6] from 16 (fun a b wx => ∃ X6 X7 : Nat, a = .pointer (some ⟨X6, 0, none⟩) ∧ b = .pointer (some ⟨X7, 0, none⟩) ∧ Hid (Keep w wx) ∧ Hid (wx.cell? ⟨N0, 0, none⟩ = some (.int .u32 B1) ∧ wx.cell? ⟨N0, 1, none⟩ = some (.int .u32 R1) ∧ wx.cell? ⟨N0, 2, none⟩ = some (.slice ga1 gl1 gc1) ∧ wx.cell? ⟨N0, 3, none⟩ = some (.slice sa1 sl1 sc1) ∧ wx.cell? ⟨N0, 4, none⟩ = some (.int .u32 B2) ∧ wx.cell? ⟨N0, 5, none⟩ = some (.int .u32 R2) ∧ wx.cell? ⟨N0, 6, none⟩ = some (.slice ga2 gl2 gc2) ∧ wx.cell? ⟨N0, 7, none⟩ = some (.slice sa2 sl2 sc2)) ∧ Hid (∀ j, wx.frozen? ⟨N0, j, none⟩ = false) ∧ (wx.cell? ⟨X6, 0, none⟩ = some (.int .i64 X1) ∧ wx.cell? ⟨X6, 1, none⟩ = some (.int .i64 Y1) ∧ wx.cell? ⟨X7, 0, none⟩ = some (.int .i64 X2) ∧ wx.cell? ⟨X7, 1, none⟩ = some (.int .i64 Y2)) ∧ Hid (wx.frozen? ⟨X6, 0, none⟩ = false ∧ wx.frozen? ⟨X6, 1, none⟩ = false ∧ wx.frozen? ⟨X7, 0, none⟩ = false ∧ wx.frozen? ⟨X7, 1, none⟩ = false) ∧ ¬ X6 = X7 ∧ N0 < X6 ∧ N0 < X7)
  case first =>
    refine region_inv (J := fun bb aa wy => ∃ v5 v6 v18 v19 v20 v21 v22 v23 : Value, aa = ⟨#[Value.agg #[Value.int IntKind.u32 B1, Value.int IntKind.u32 R1, Value.slice ga1 gl1 gc1, Value.slice sa1 sl1 sc1, Value.int IntKind.u32 B2, Value.int IntKind.u32 R2, Value.slice ga2 gl2 gc2, Value.slice sa2 sl2 sc2], Value.slice pa pn pc, Value.pointer (some { block := N0, off := 0 }), undef, Value.bool false, v5, v6, undef, undef, undef, undef, undef, undef, undef, undef, undef, Value.bool true, Value.bool false, v18, v19, v20, v21, v22, v23, undef, undef, undef, undef, undef, undef, undef, undef, undef, undef, undef, undef, undef, undef, undef, undef, undef, undef, undef, undef, undef, undef, undef, undef, undef, undef, undef, undef, undef, undef, undef, undef, undef, undef, undef, undef, undef, undef, undef, undef, undef, undef, undef, undef, undef, undef, undef, undef, undef, undef, undef, undef, undef, undef, undef, undef, undef, undef, undef, undef, undef, undef, undef, undef, undef, undef, undef, undef, undef, undef, undef, undef, undef, undef, undef, undef, undef, undef, undef, undef, undef, undef, undef, undef, undef, undef, undef, undef, undef, undef, undef, undef, undef, undef, undef, undef, undef, undef, undef, undef, undef, undef, undef, undef, undef, undef, undef, undef, undef, undef, undef, undef, undef, undef, undef, undef, undef, undef, undef, undef, undef, undef, undef, undef, undef, undef, undef, undef, undef, undef, undef, undef, undef, undef, undef, undef, undef, undef, undef, undef, undef, undef, undef, undef, undef, undef, undef, undef, undef, undef, undef, undef, undef, undef, undef, undef], []⟩ ∧ Keep w1 wy ∧ (bb 0 → v18 = .pointer (some ⟨N0, 0, none⟩)) ∧ (bb 1 → v19 = .agg #[.int .u32 B1, .int .u32 R1, .slice ga1 gl1 gc1, .slice sa1 sl1 sc1]) ∧ (bb 2 → v20 = .agg #[.int .i64 X1, .int .i64 Y1]) ∧ (bb 3 → v21 = .pointer (some ⟨N0, 4, none⟩)) ∧ (bb 4 → v22 = .agg #[.int .u32 B2, .int .u32 R2, .slice ga2 gl2 gc2, .slice sa2 sl2 sc2]) ∧ (bb 5 → v23 = .agg #[.int .i64 X2, .int .i64 Y2]) ∧ (bb 6 → VarAt w1 wy v5 (bb 8) (.int .i64 X1) (.int .i64 Y1)) ∧ (bb 7 → VarAt w1 wy v6 (bb 9) (.int .i64 X2) (.int .i64 Y2)) ∧ (bb 8 → bb 6) ∧ (bb 9 → bb 7) ∧ (bb 6 → bb 7 → Apart v5 v6)) (by kernel_rfl) (by kernel_rfl) ?doney ?starty ?stepsy
    case doney =>
      rintro bb aa wy hb ⟨v5, v6, v18, v19, v20, v21, v22, v23, rfl, G, f0, f1, f2, f3, f4, f5, f6, f7, f8, f9, d6_7⟩
      replace hb : ∀ k, k < 10 → bb k := fun k hk => hb k hk
      have g0 := f0 (hb 0 (by decide))
      have g1 := f1 (hb 1 (by decide))
      have g2 := f2 (hb 2 (by decide))
      have g3 := f3 (hb 3 (by decide))
      have g4 := f4 (hb 4 (by decide))
      have g5 := f5 (hb 5 (by decide))
      have g6 := f6 (hb 6 (by decide))
      have g7 := f7 (hb 7 (by decide))
      have q6_7 := d6_7 (hb 6 (by decide)) (hb 7 (by decide))
      clear f0 f1 f2 f3 f4 f5 f6 f7 f8 f9 d6_7
      obtain rfl := g0
      obtain rfl := g1
      obtain rfl := g2
      obtain rfl := g3
      obtain rfl := g4
      obtain rfl := g5
      obtain ⟨X6, x6, y6, rfl, hX6, ⟨hc6, hd6⟩, ⟨hf6, hg6⟩, hs6⟩ := g6
      obtain ⟨rfl, rfl⟩ := hs6 (hb 8 (by decide))
      obtain ⟨X7, x7, y7, rfl, hX7, ⟨hc7, hd7⟩, ⟨hf7, hg7⟩, hs7⟩ := g7
      obtain ⟨rfl, rfl⟩ := hs7 (hb 9 (by decide))
      have nA : ¬ X6 = X7 := q6_7 X6 X7 rfl rfl
      have s6 : N0 < X6 := by omega
      have s7 : N0 < X7 := by omega
      go_wp2
      go_meet
      exact ⟨_, _, rfl, rfl, Lib.hid (KK.out.trans G), Lib.hid ⟨G.some HD0.out.1, G.some HD0.out.2.1, G.some HD0.out.2.2.1, G.some HD0.out.2.2.2.1, G.some HD0.out.2.2.2.2.1, G.some HD0.out.2.2.2.2.2.1, G.some HD0.out.2.2.2.2.2.2.1, G.some HD0.out.2.2.2.2.2.2.2⟩, Lib.hid (fun j => (G.frozen (o := j) hNb).trans (Z0.out j)), ⟨hc6, hd6, hc7, hd7⟩, Lib.hid ⟨hf6, hg6, hf7, hg7⟩, nA, s6, s7⟩
    case starty => exact ⟨_, _, _, _, _, _, _, _, rfl, Keep.drew (Keep.refl _), fun h => h.elim, fun h => h.elim, fun h => h.elim, fun h => h.elim, fun h => h.elim, fun h => h.elim, fun h => h.elim, fun h => h.elim, fun h => h.elim, fun h => h.elim, fun h => h.elim⟩
    case stepsy =>
      refine StepsFrom.cons (k := 0) ?_ (StepsFrom.cons (k := 1) ?_ (StepsFrom.cons (k := 2) ?_ (StepsFrom.cons (k := 3) ?_ (StepsFrom.cons (k := 4) ?_ (StepsFrom.cons (k := 5) ?_ (StepsFrom.cons (k := 6) ?_ (StepsFrom.cons (k := 7) ?_ (StepsFrom.cons (k := 8) ?_ (StepsFrom.cons (k := 9) ?_ (StepsFrom.nil))))))))))
      · -- 0: val
        rintro bb aa wy hn hd ⟨v5, v6, v18, v19, v20, v21, v22, v23, rfl, G, f0, f1, f2, f3, f4, f5, f6, f7, f8, f9, d6_7⟩ K hK
        have HK := Lib.hid hK
        clear hK
        go_simp
        exact HK.out _ _ ⟨_, _, _, _, _, _, _, _, rfl, G, fun _ => rfl, up (by decide) f1, up (by decide) f2, up (by decide) f3, up (by decide) f4, up (by decide) f5, fun h => (f6 (down (by decide) h)).step (Keep.refl _) (down (by decide)), fun h => (f7 (down (by decide) h)).step (Keep.refl _) (down (by decide)), fun h => Or.inr (f8 (down (by decide) h)), fun h => Or.inr (f9 (down (by decide) h)), fun h h' => d6_7 (down (by decide) h) (down (by decide) h')⟩
      · -- 1: val
        rintro bb aa wy hn hd ⟨v5, v6, v18, v19, v20, v21, v22, v23, rfl, G, f0, f1, f2, f3, f4, f5, f6, f7, f8, f9, d6_7⟩ K hK
        have b0 : bb 0 := hd ⟨0, .data⟩ (by simp) (by rfl)
        obtain rfl := f0 b0
        have k0 := G.some d0
        have k1 := G.some d1
        have k2 := G.some d2
        have k3 := G.some d3
        have HK := Lib.hid hK
        clear hK
        go_simp
        exact HK.out _ _ ⟨_, _, _, _, _, _, _, _, rfl, G, fun _ => rfl, fun _ => rfl, up (by decide) f2, up (by decide) f3, up (by decide) f4, up (by decide) f5, fun h => (f6 (down (by decide) h)).step (Keep.refl _) (down (by decide)), fun h => (f7 (down (by decide) h)).step (Keep.refl _) (down (by decide)), fun h => Or.inr (f8 (down (by decide) h)), fun h => Or.inr (f9 (down (by decide) h)), fun h h' => d6_7 (down (by decide) h) (down (by decide) h')⟩
      · -- 2: val
        rintro bb aa wy hn hd ⟨v5, v6, v18, v19, v20, v21, v22, v23, rfl, G, f0, f1, f2, f3, f4, f5, f6, f7, f8, f9, d6_7⟩ K hK
        have b1 : bb 1 := hd ⟨1, .data⟩ (by simp) (by rfl)
        obtain rfl := f1 b1
        have HK := Lib.hid hK
        clear hK
        go_wp2_with (go_at_call 5; ((with_reducible refine (draftBucket_is _ B1 R1 gs1 ss1 _ (Lib.hid (HD1.out.keep G)) X1 Y1 HX1 HY1).mono ?_); rintro _ w1 ⟨rfl, hk⟩))
        exact HK.out _ _ ⟨_, _, _, _, _, _, _, _, rfl, (G.trans hk), up (by decide) f0, fun _ => rfl, fun _ => rfl, up (by decide) f3, up (by decide) f4, up (by decide) f5, fun h => (f6 (down (by decide) h)).step hk (down (by decide)), fun h => (f7 (down (by decide) h)).step hk (down (by decide)), fun h => Or.inr (f8 (down (by decide) h)), fun h => Or.inr (f9 (down (by decide) h)), fun h h' => d6_7 (down (by decide) h) (down (by decide) h')⟩
      · -- 3: val
        rintro bb aa wy hn hd ⟨v5, v6, v18, v19, v20, v21, v22, v23, rfl, G, f0, f1, f2, f3, f4, f5, f6, f7, f8, f9, d6_7⟩ K hK
        have HK := Lib.hid hK
        clear hK
        go_simp
        exact HK.out _ _ ⟨_, _, _, _, _, _, _, _, rfl, G, up (by decide) f0, up (by decide) f1, up (by decide) f2, fun _ => rfl, up (by decide) f4, up (by decide) f5, fun h => (f6 (down (by decide) h)).step (Keep.refl _) (down (by decide)), fun h => (f7 (down (by decide) h)).step (Keep.refl _) (down (by decide)), fun h => Or.inr (f8 (down (by decide) h)), fun h => Or.inr (f9 (down (by decide) h)), fun h h' => d6_7 (down (by decide) h) (down (by decide) h')⟩
      · -- 4: val
        rintro bb aa wy hn hd ⟨v5, v6, v18, v19, v20, v21, v22, v23, rfl, G, f0, f1, f2, f3, f4, f5, f6, f7, f8, f9, d6_7⟩ K hK
        have b3 : bb 3 := hd ⟨3, .data⟩ (by simp) (by rfl)
        obtain rfl := f3 b3
        have k0 := G.some d4
        have k1 := G.some d5
        have k2 := G.some d6
        have k3 := G.some d7
        have HK := Lib.hid hK
        clear hK
        go_simp
        exact HK.out _ _ ⟨_, _, _, _, _, _, _, _, rfl, G, up (by decide) f0, up (by decide) f1, up (by decide) f2, fun _ => rfl, fun _ => rfl, up (by decide) f5, fun h => (f6 (down (by decide) h)).step (Keep.refl _) (down (by decide)), fun h => (f7 (down (by decide) h)).step (Keep.refl _) (down (by decide)), fun h => Or.inr (f8 (down (by decide) h)), fun h => Or.inr (f9 (down (by decide) h)), fun h h' => d6_7 (down (by decide) h) (down (by decide) h')⟩
      · -- 5: val
        rintro bb aa wy hn hd ⟨v5, v6, v18, v19, v20, v21, v22, v23, rfl, G, f0, f1, f2, f3, f4, f5, f6, f7, f8, f9, d6_7⟩ K hK
        have b4 : bb 4 := hd ⟨4, .data⟩ (by simp) (by rfl)
        obtain rfl := f4 b4
        have HK := Lib.hid hK
        clear hK
        go_wp2_with (go_at_call 5; ((with_reducible refine (draftBucket_is _ B2 R2 gs2 ss2 _ (Lib.hid (HD2.out.keep G)) X2 Y2 HX2 HY2).mono ?_); rintro _ w1 ⟨rfl, hk⟩))
        exact HK.out _ _ ⟨_, _, _, _, _, _, _, _, rfl, (G.trans hk), up (by decide) f0, up (by decide) f1, up (by decide) f2, up (by decide) f3, fun _ => rfl, fun _ => rfl, fun h => (f6 (down (by decide) h)).step hk (down (by decide)), fun h => (f7 (down (by decide) h)).step hk (down (by decide)), fun h => Or.inr (f8 (down (by decide) h)), fun h => Or.inr (f9 (down (by decide) h)), fun h h' => d6_7 (down (by decide) h) (down (by decide) h')⟩
      · -- 6: alloc
        rintro bb aa wy hn hd ⟨v5, v6, v18, v19, v20, v21, v22, v23, rfl, G, f0, f1, f2, f3, f4, f5, f6, f7, f8, f9, d6_7⟩ K hK
        have HK := Lib.hid hK
        clear hK
        go_simp
        exact HK.out _ _ ⟨_, _, _, _, _, _, _, _, rfl, (G.trans (Keep.alloc (Keep.refl _) _)), up (by decide) f0, up (by decide) f1, up (by decide) f2, up (by decide) f3, up (by decide) f4, up (by decide) f5, fun _ => VarAt.new G (fun h => hn (f8 (h.resolve_left (by decide)))), fun h => (f7 (down (by decide) h)).step (Keep.alloc (Keep.refl _) _) (down (by decide)), fun _ => Or.inl rfl, fun h => Or.inr (f9 (down (by decide) h)), fun _ h => (f7 (down (by decide) h)).apartNew.symm⟩
      · -- 7: alloc
        rintro bb aa wy hn hd ⟨v5, v6, v18, v19, v20, v21, v22, v23, rfl, G, f0, f1, f2, f3, f4, f5, f6, f7, f8, f9, d6_7⟩ K hK
        have HK := Lib.hid hK
        clear hK
        go_simp
        exact HK.out _ _ ⟨_, _, _, _, _, _, _, _, rfl, (G.trans (Keep.alloc (Keep.refl _) _)), up (by decide) f0, up (by decide) f1, up (by decide) f2, up (by decide) f3, up (by decide) f4, up (by decide) f5, fun h => (f6 (down (by decide) h)).step (Keep.alloc (Keep.refl _) _) (down (by decide)), fun _ => VarAt.new G (fun h => hn (f9 (h.resolve_left (by decide)))), fun h => Or.inr (f8 (down (by decide) h)), fun _ => Or.inl rfl, fun h _ => (f6 (down (by decide) h)).apartNew⟩
      · -- 8: store
        rintro bb aa wy hn hd ⟨v5, v6, v18, v19, v20, v21, v22, v23, rfl, G, f0, f1, f2, f3, f4, f5, f6, f7, f8, f9, d6_7⟩ K hK
        have b6 : bb 6 := hd ⟨6, .data⟩ (by simp) (by rfl)
        have b2 : bb 2 := hd ⟨2, .data⟩ (by simp) (by rfl)
        obtain rfl := f2 b2
        obtain ⟨X, c0, c1, rfl, hX, ⟨hc0, hc1⟩, ⟨hf0, hf1⟩, -⟩ := f6 b6
        have HK := Lib.hid hK
        clear hK
        go_simp
        exact HK.out _ _ ⟨_, _, _, _, _, _, _, _, rfl, ((G.setCell hX _).setCell hX _), up (by decide) f0, up (by decide) f1, fun _ => rfl, up (by decide) f3, up (by decide) f4, up (by decide) f5, fun _ => VarAt.here hX hc0 hc1 hf0 hf1, fun h => (f7 (down (by decide) h)).other ((d6_7 b6 (down (by decide) h)).symm) (down (by decide)), fun _ => Or.inr b6, fun h => Or.inr (f9 (down (by decide) h)), fun h h' => d6_7 (down (by decide) h) (down (by decide) h')⟩
      · -- 9: store
        rintro bb aa wy hn hd ⟨v5, v6, v18, v19, v20, v21, v22, v23, rfl, G, f0, f1, f2, f3, f4, f5, f6, f7, f8, f9, d6_7⟩ K hK
        have b7 : bb 7 := hd ⟨7, .data⟩ (by simp) (by rfl)
        have b5 : bb 5 := hd ⟨5, .data⟩ (by simp) (by rfl)
        obtain rfl := f5 b5
        obtain ⟨X, c0, c1, rfl, hX, ⟨hc0, hc1⟩, ⟨hf0, hf1⟩, -⟩ := f7 b7
        have HK := Lib.hid hK
        clear hK
        go_simp
        exact HK.out _ _ ⟨_, _, _, _, _, _, _, _, rfl, ((G.setCell hX _).setCell hX _), up (by decide) f0, up (by decide) f1, up (by decide) f2, up (by decide) f3, up (by decide) f4, fun _ => rfl, fun h => (f6 (down (by decide) h)).other (d6_7 (down (by decide) h) b7) (down (by decide)), fun _ => VarAt.here hX hc0 hc1 hf0 hf1, fun h => Or.inr (f8 (down (by decide) h)), fun _ => Or.inr b7, fun h h' => d6_7 (down (by decide) h) (down (by decide) h')⟩
  case rest =>
  obtain ⟨X6, X7, rfl, rfl, KK, HD0, Z0, ⟨hc6, hd6, hc7, hd7⟩, HF, nA, s6, s7⟩ := hcut
  clear HX1 HX2 HY1 HY2 hNb d0 d1 d2 d3 d4 d5 d6 d7
  obtain ⟨W3, rfl⟩ : ∃ W, W = wc := ⟨_, rfl⟩
  go_upto_region 4 with fail
  go_cut [5] from 16 (fun a wx => a = .pointer (some ⟨X6, 0, none⟩) ∧ Hid (Keep w wx) ∧ Hid (wx.cell? ⟨N0, 0, none⟩ = some (.int .u32 B1) ∧ wx.cell? ⟨N0, 1, none⟩ = some (.int .u32 R1) ∧ wx.cell? ⟨N0, 2, none⟩ = some (.slice ga1 gl1 gc1) ∧ wx.cell? ⟨N0, 3, none⟩ = some (.slice sa1 sl1 sc1) ∧ wx.cell? ⟨N0, 4, none⟩ = some (.int .u32 B2) ∧ wx.cell? ⟨N0, 5, none⟩ = some (.int .u32 R2) ∧ wx.cell? ⟨N0, 6, none⟩ = some (.slice ga2 gl2 gc2) ∧ wx.cell? ⟨N0, 7, none⟩ = some (.slice sa2 sl2 sc2)) ∧ Hid (∀ j, wx.frozen? ⟨N0, j, none⟩ = false) ∧ (wx.cell? ⟨X6, 0, none⟩ = some (.int .i64 P1) ∧ wx.cell? ⟨X6, 1, none⟩ = some (.int .i64 Q1) ∧ wx.cell? ⟨X7, 0, none⟩ = some (.int .i64 P2) ∧ wx.cell? ⟨X7, 1, none⟩ = some (.int .i64 Q2)))
  case first =>
    obtain ⟨hf6, hg6, hf7, hg7⟩ := HF.out
    have nB : ¬ X7 = X6 := fun e => nA e.symm
    have nC : ¬ N0 = X6 := by omega
    have nD : ¬ N0 = X7 := by omega
    have nE : ¬ X6 = N0 := by omega
    have nF : ¬ X7 = N0 := by omega
    have a1 : X1.tdiv 2 = P1 - 1 := half X1 _ 2 (by omega) (by omega)
    have a2 : X2.tdiv 2 = P2 - 1 := half X2 _ 2 (by omega) (by omega)
    have b1 : Y1.tdiv 4 = Q1 - 1 := half Y1 _ 4 (by omega) (by omega)
    have b2 : Y2.tdiv 4 = Q2 - 1 := half Y2 _ 4 (by omega) (by omega)
    have bP1 : 1 ≤ P1 ∧ P1 ≤ 524289 := by omega
    have bP2 : 1 ≤ P2 ∧ P2 ≤ 524289 := by omega
    have bQ1 : 1 ≤ Q1 ∧ Q1 ≤ 524289 := by omega
    have bQ2 : 1 ≤ Q2 ∧ Q2 ≤ 524289 := by omega
    have hsN : w.heap.size ≤ X6 := by have := HN.out; omega
    have hsM : w.heap.size ≤ X7 := by have := HN.out; omega
    clear hP1 hP2 hQ1 hQ2 bX1 bX2 bY1 bY2
    go_region
    all_goals go_wp2
    all_goals rw [show 1 + (P1 - 1) = P1 by omega, show 1 + (P2 - 1) = P2 by omega, show 1 + (Q1 - 1) = Q1 by omega, show 1 + (Q2 - 1) = Q2 by omega]
    all_goals go_meet
    skip
    all_goals refine ⟨rfl, Lib.hid (((((KK.out.setCell (a := ⟨X6, 0, none⟩) hsN (.int .i64 P1)).setCell (a := ⟨X7, 0, none⟩) hsM (.int .i64 P2)).setCell (a := ⟨X6, 1, none⟩) hsN (.int .i64 Q1)).setCell (a := ⟨X7, 1, none⟩) hsM (.int .i64 Q2)).drew), Lib.hid ?_, Lib.hid (fun j => by simp [go_sem, Z0.out j]), ?_⟩
    · obtain ⟨e0, e1, e2, e3, e4, e5, e6, e7⟩ := HD0.out
      exact ⟨by simp [go_sem, e0], by simp [go_sem, e1], by simp [go_sem, e2], by simp [go_sem, e3], by simp [go_sem, e4], by simp [go_sem, e5], by simp [go_sem, e6], by simp [go_sem, e7]⟩
    · exact ⟨by simp [go_sem, hc6], by simp [go_sem, hd6], by simp [go_sem, hc7], by simp [go_sem, hd7]⟩
  case rest =>
  clear KK HD0 Z0 hc6 hd6 hc7 hd7 HF
  obtain ⟨rfl, KK, HD0, Z0, hc6, hd6, hc7, hd7⟩ := hcut
  have bP1 : 1 ≤ P1 ∧ P1 ≤ 524289 := by omega
  have bP2 : 1 ≤ P2 ∧ P2 ≤ 524289 := by omega
  have bQ1 : 1 ≤ Q1 ∧ Q1 ≤ 524289 := by omega
  have bQ2 : 1 ≤ Q2 ∧ Q2 ≤ 524289 := by omega
  clear hP1 hP2 hQ1 hQ2 bX1 bX2 bY1 bY2
  obtain ⟨W4, rfl⟩ : ∃ W, W = wc := ⟨_, rfl⟩
  go_upto_region 5 with fail
  go_cut [5] from 16 (fun a wx => a = .pointer (some ⟨X6, 0, none⟩) ∧ Hid (Keep w wx) ∧ Hid (wx.cell? ⟨N0, 0, none⟩ = some (.int .u32 (P1 - 1)) ∧ wx.cell? ⟨N0, 1, none⟩ = some (.int .u32 (Q1 - 1)) ∧ wx.cell? ⟨N0, 2, none⟩ = some (.slice ga1 gl1 gc1) ∧ wx.cell? ⟨N0, 3, none⟩ = some (.slice sa1 sl1 sc1) ∧ wx.cell? ⟨N0, 4, none⟩ = some (.int .u32 (P2 - 1)) ∧ wx.cell? ⟨N0, 5, none⟩ = some (.int .u32 (Q2 - 1)) ∧ wx.cell? ⟨N0, 6, none⟩ = some (.slice ga2 gl2 gc2) ∧ wx.cell? ⟨N0, 7, none⟩ = some (.slice sa2 sl2 sc2)) ∧ (wx.cell? ⟨X6, 0, none⟩ = some (.int .i64 P1) ∧ wx.cell? ⟨X6, 1, none⟩ = some (.int .i64 Q1) ∧ wx.cell? ⟨X7, 0, none⟩ = some (.int .i64 P2) ∧ wx.cell? ⟨X7, 1, none⟩ = some (.int .i64 Q2)))
  case first =>
    obtain ⟨d0, d1, d2, d3, d4, d5, d6, d7⟩ := HD0.out
    have nC : ¬ N0 = X6 := by omega
    have nD : ¬ N0 = X7 := by omega
    have nE : ¬ X6 = N0 := by omega
    have nF : ¬ X7 = N0 := by omega
    have hsN : w.heap.size ≤ N0 := by have := HN.out; omega
    have z0 := Z0.out
    have w1' : IntKind.u32.wrap (P1 - 1) = P1 - 1 := IntWalk.u32_in _ (by omega)
    have w2' : IntKind.u32.wrap (P2 - 1) = P2 - 1 := IntWalk.u32_in _ (by omega)
    have w3' : IntKind.u32.wrap (Q1 - 1) = Q1 - 1 := IntWalk.u32_in _ (by omega)
    have w4' : IntKind.u32.wrap (Q2 - 1) = Q2 - 1 := IntWalk.u32_in _ (by omega)
    go_region
    all_goals go_wp2
    all_goals go_meet
    all_goals refine ⟨rfl, Lib.hid (((((KK.out.setCell (a := ⟨N0, 0, none⟩) hsN (.int .u32 (P1 - 1))).setCell (a := ⟨N0, 1, none⟩) hsN (.int .u32 (Q1 - 1))).setCell (a := ⟨N0, 4, none⟩) hsN (.int .u32 (P2 - 1))).setCell (a := ⟨N0, 5, none⟩) hsN (.int .u32 (Q2 - 1))).drew), Lib.hid ⟨by simp [go_sem, d0], by simp [go_sem, d1], by simp [go_sem, d2], by simp [go_sem, d3], by simp [go_sem, d4], by simp [go_sem, d5], by simp [go_sem, d6], by simp [go_sem, d7]⟩, ?_⟩
    all_goals exact ⟨by simp [go_sem, hc6], by simp [go_sem, hd6], by simp [go_sem, hc7], by simp [go_sem, hd7]⟩
  case rest =>
  clear KK HD0 Z0 hc6 hd6 hc7 hd7
  obtain ⟨rfl, KK, HD0, hc6, hd6, hc7, hd7⟩ := hcut
  obtain ⟨W5, rfl⟩ : ∃ W, W = wc := ⟨_, rfl⟩
  go_upto_region 6 with fail
  go_cut [5, 7, 8] from 16 (fun a v7 v8 wx => a = .pointer (some ⟨X6, 0, none⟩) ∧ Hid (Keep w wx) ∧ RowAt wx v7 x1 ∧ RowAt wx v8 x2 ∧ (wx.cell? ⟨X6, 0, none⟩ = some (.int .i64 P1) ∧ wx.cell? ⟨X6, 1, none⟩ = some (.int .i64 Q1) ∧ wx.cell? ⟨X7, 0, none⟩ = some (.int .i64 P2) ∧ wx.cell? ⟨X7, 1, none⟩ = some (.int .i64 Q2)))
  case first =>
    obtain ⟨d0, d1, d2, d3, d4, d5, d6, d7⟩ := HD0.out
    have hsN : w.heap.size ≤ N0 := by have := HN.out; omega
    have HD1 := Lib.hid ((hD1.out.keep KK.out).other (B' := P1 - 1) (R' := Q1 - 1) (by omega) (by omega))
    have HN1 : Hid (bOf (P1 - 1) = P1) := Lib.hid (by unfold bOf; omega)
    have HM1 : Hid (rOf (Q1 - 1) = Q1) := Lib.hid (by unfold rOf; omega)
    have HD2 := Lib.hid ((hD2.out.keep KK.out).other (B' := P2 - 1) (R' := Q2 - 1) (by omega) (by omega))
    have HN2 : Hid (bOf (P2 - 1) = P2) := Lib.hid (by unfold bOf; omega)
    have HM2 : Hid (rOf (Q2 - 1) = Q2) := Lib.hid (by unfold rOf; omega)
    refine region_lin (W0 := W5) (listF [fun v ww => v = .pointer (some ⟨N0, 0, none⟩), fun v ww => v = .agg #[.int .u32 (P1 - 1), .int .u32 (Q1 - 1), .slice ga1 gl1 gc1, .slice sa1 sl1 sc1], fun v ww => RowAt ww v x1, fun v ww => v = .pointer (some ⟨N0, 4, none⟩), fun v ww => v = .agg #[.int .u32 (P2 - 1), .int .u32 (Q2 - 1), .slice ga2 gl2 gc2, .slice sa2 sl2 sc2], fun v ww => RowAt ww v x2, fun v ww => RowAt ww v x1, fun v ww => RowAt ww v x2]) (listF_stable _ ⟨fun _ _ _ _ h => h, fun _ _ _ _ h => h, fun _ _ _ hk h => h.keep hk, fun _ _ _ _ h => h, fun _ _ _ _ h => h, fun _ _ _ hk h => h.keep hk, fun _ _ _ hk h => h.keep hk, fun _ _ _ hk h => h.keep hk, trivial⟩) (by kernel_rfl) (by kernel_rfl) (by kernel_rfl) (by kernel_rfl) (Keep.refl _) ?done6 ?steps6
    case done6 =>
      intro T6 wz6 hJ
      obtain ⟨xv0, t0, f0⟩ := hJ.fact 0 68 (by decide) (by kernel_rfl)
      obtain rfl : xv0 = .pointer (some ⟨N0, 0, none⟩) := f0
      obtain ⟨xv1, t1, f1⟩ := hJ.fact 1 69 (by decide) (by kernel_rfl)
      obtain rfl : xv1 = .agg #[.int .u32 (P1 - 1), .int .u32 (Q1 - 1), .slice ga1 gl1 gc1, .slice sa1 sl1 sc1] := f1
      obtain ⟨xv2, t2, f2⟩ := hJ.fact 2 70 (by decide) (by kernel_rfl)
      replace f2 : RowAt wz6 xv2 x1 := f2
      obtain ⟨xv3, t3, f3⟩ := hJ.fact 3 71 (by decide) (by kernel_rfl)
      obtain rfl : xv3 = .pointer (some ⟨N0, 4, none⟩) := f3
      obtain ⟨xv4, t4, f4⟩ := hJ.fact 4 72 (by decide) (by kernel_rfl)
      obtain rfl : xv4 = .agg #[.int .u32 (P2 - 1), .int .u32 (Q2 - 1), .slice ga2 gl2 gc2, .slice sa2 sl2 sc2] := f4
      obtain ⟨xv5, t5, f5⟩ := hJ.fact 5 73 (by decide) (by kernel_rfl)
      replace f5 : RowAt wz6 xv5 x2 := f5
      obtain ⟨xv6, t6, f6⟩ := hJ.fact 6 7 (by decide) (by kernel_rfl)
      replace f6 : RowAt wz6 xv6 x1 := f6
      obtain ⟨xv7, t7, f7⟩ := hJ.fact 7 8 (by decide) (by kernel_rfl)
      replace f7 : RowAt wz6 xv7 x2 := f7
      have hfr := hJ.frame [(68, .pointer (some ⟨N0, 0, none⟩)), (69, .agg #[.int .u32 (P1 - 1), .int .u32 (Q1 - 1), .slice ga1 gl1 gc1, .slice sa1 sl1 sc1]), (70, xv2), (71, .pointer (some ⟨N0, 4, none⟩)), (72, .agg #[.int .u32 (P2 - 1), .int .u32 (Q2 - 1), .slice ga2 gl2 gc2, .slice sa2 sl2 sc2]), (73, xv5), (7, xv6), (8, xv7)] (by simp [t0, t1, t2, t3, t4, t5, t6, t7]) (by kernel_rfl)
      have G := hJ.keep
      clear hJ t0 t1 t2 t3 t4 t5 t6 t7
      rw [hfr]
      clear hfr T6
      simp only [List.foldl_cons, List.foldl_nil, List.setIfInBounds_toArray, List.set_cons_zero, List.set_cons_succ]
      go_wp2
      go_meet
      exact ⟨rfl, Lib.hid (KK.out.trans G), f6, f7, G.some hc6, G.some hd6, G.some hc7, G.some hd7⟩
    case steps6 =>
      refine LinSteps.cons (k := 0) ?_ (LinSteps.cons (k := 1) ?_ (LinSteps.cons (k := 2) ?_ (LinSteps.cons (k := 3) ?_ (LinSteps.cons (k := 4) ?_ (LinSteps.cons (k := 5) ?_ (LinSteps.cons (k := 6) ?_ (LinSteps.cons (k := 7) ?_ (LinSteps.nil))))))))
      · -- 0
        refine LinStep.plain rfl ?_
        intro QQ bb T ww hn hJ hd K HK
        have s2 := (hJ.oldSlot 2 (by kernel_rfl))
        simp only [List.getElem?_toArray, List.getElem?_cons_zero, List.getElem?_cons_succ] at s2
        have G := hJ.keep
        clear hJ hd hn
        go_simp
        exact HK.out _ _ (Keep.refl _) rfl
      · -- 1
        refine LinStep.plain rfl ?_
        intro QQ bb T ww hn hJ hd K HK
        obtain ⟨xv0, t0, f0⟩ := hJ.dep hd 0 68 (by kernel_rfl) (by kernel_rfl)
        obtain rfl : xv0 = .pointer (some ⟨N0, 0, none⟩) := f0
        have G := hJ.keep
        clear hJ hd hn
        have k0 := G.some d0
        have k1 := G.some d1
        have k2 := G.some d2
        have k3 := G.some d3
        go_simp
        exact HK.out _ _ (Keep.refl _) rfl
      · -- 2
        refine LinStep.plain rfl ?_
        intro QQ bb T ww hn hJ hd K HK
        obtain ⟨xv1, t1, f1⟩ := hJ.dep hd 1 69 (by kernel_rfl) (by kernel_rfl)
        obtain rfl : xv1 = .agg #[.int .u32 (P1 - 1), .int .u32 (Q1 - 1), .slice ga1 gl1 gc1, .slice sa1 sl1 sc1] := f1
        have G := hJ.keep
        clear hJ hd hn
        go_wp2_with (go_at_call 6; ((with_reducible refine (conf_is _ (P1 - 1) (Q1 - 1) gs1 ss1 _ (Lib.hid (HD1.out.keep G)) P1 Q1 HN1 HM1 l1 Hl1).mono ?_); rintro _ w9 ⟨v9, rfl, hr, hk, -⟩; rw [Hx1.out] at hr))
        exact HK.out _ _ hk (hr)
      · -- 3
        refine LinStep.plain rfl ?_
        intro QQ bb T ww hn hJ hd K HK
        have s2 := (hJ.oldSlot 2 (by kernel_rfl))
        simp only [List.getElem?_toArray, List.getElem?_cons_zero, List.getElem?_cons_succ] at s2
        have G := hJ.keep
        clear hJ hd hn
        go_simp
        exact HK.out _ _ (Keep.refl _) rfl
      · -- 4
        refine LinStep.plain rfl ?_
        intro QQ bb T ww hn hJ hd K HK
        obtain ⟨xv3, t3, f3⟩ := hJ.dep hd 3 71 (by kernel_rfl) (by kernel_rfl)
        obtain rfl : xv3 = .pointer (some ⟨N0, 4, none⟩) := f3
        have G := hJ.keep
        clear hJ hd hn
        have k0 := G.some d4
        have k1 := G.some d5
        have k2 := G.some d6
        have k3 := G.some d7
        go_simp
        exact HK.out _ _ (Keep.refl _) rfl
      · -- 5
        refine LinStep.plain rfl ?_
        intro QQ bb T ww hn hJ hd K HK
        obtain ⟨xv4, t4, f4⟩ := hJ.dep hd 4 72 (by kernel_rfl) (by kernel_rfl)
        obtain rfl : xv4 = .agg #[.int .u32 (P2 - 1), .int .u32 (Q2 - 1), .slice ga2 gl2 gc2, .slice sa2 sl2 sc2] := f4
        have G := hJ.keep
        clear hJ hd hn
        go_wp2_with (go_at_call 6; ((with_reducible refine (conf_is _ (P2 - 1) (Q2 - 1) gs2 ss2 _ (Lib.hid (HD2.out.keep G)) P2 Q2 HN2 HM2 l2 Hl2).mono ?_); rintro _ w9 ⟨v9, rfl, hr, hk, -⟩; rw [Hx2.out] at hr))
        exact HK.out _ _ hk (hr)
      · -- 6
        refine LinStep.plain rfl ?_
        intro QQ bb T ww hn hJ hd K HK
        obtain ⟨xv2, t2, f2⟩ := hJ.dep hd 2 70 (by kernel_rfl) (by kernel_rfl)
        replace f2 : RowAt ww xv2 x1 := f2
        have G := hJ.keep
        clear hJ hd hn
        go_simp
        exact HK.out _ _ (Keep.refl _) (f2)
      · -- 7
        refine LinStep.plain rfl ?_
        intro QQ bb T ww hn hJ hd K HK
        obtain ⟨xv5, t5, f5⟩ := hJ.dep hd 5 73 (by kernel_rfl) (by kernel_rfl)
        replace f5 : RowAt ww xv5 x2 := f5
        have G := hJ.keep
        clear hJ hd hn
        go_simp
        exact HK.out _ _ (Keep.refl _) (f5)
  case rest =>
  clear KK HD0 HD1 HD2 hc6 hd6 hc7 hd7 hD1 hD2 Hl1 Hl2 nA s6 s7 HN
  obtain ⟨rfl, KK, r7, r8, v0, v1, u0, u1⟩ := hcut
  obtain ⟨W6, rfl⟩ : ∃ W, W = wc := ⟨_, rfl⟩
  have F1 : Hid (fitsL P1 Q1 x1 = true) := Lib.hid (by rw [← Hx1.out]; exact confL_fits _ _ _)
  have F2 : Hid (fitsL P2 Q2 x2 = true) := Lib.hid (by rw [← Hx2.out]; exact confL_fits _ _ _)
  clear Hx1 Hx2
  obtain ⟨a7, c7, rfl, e7⟩ := r7.form
  obtain ⟨a8, c8, rfl, e8⟩ := r8.form
  have E7 := Lib.hid e7
  have E8 := Lib.hid e8
  obtain ⟨n1, hn1⟩ : ∃ n1, x1.length = n1 := ⟨_, rfl⟩
  obtain ⟨n2, hn2⟩ : ∃ n2, x2.length = n2 := ⟨_, rfl⟩
  have L1 := Lib.hid hn1
  have L2 := Lib.hid hn2
  rw [hn1] at E7 ln1 ⊢
  rw [hn2] at E8 ln2 ⊢
  obtain ⟨M, hM⟩ : ∃ M, x1.merge x2 before = M := ⟨_, rfl⟩
  have HM := Lib.hid hM
  clear e7 e8 hn1 hn2 hM r7 r8
  go_upto_block 0 with fail
  go_cut [9] from 16 (fun v9 wx => Hid (RowAt wx v9 M) ∧ Hid (Keep W6 wx))
  case first =>
    exact merges_loop1 x1 x2 M n1 n2 c7 c8 a7 a8 _ _ _ _ _ _ _ _ _ _ _ _ _ _ _ _ _ _ _ _ _ _ _ _ _ _ _ _ _ _ _ _ _ _ _ _ _ _ _ _ _ _ _ _ _ _ _ _ _ _ _ _ _ _ _ _ _ _ _ _ _ _ _ _ _ _ _ _ _ _ _ _ _ _ _ _ _ _ _ _ _ _ _ _ _ _ _ _ _ _ _ _ _ _ _ _ _ _ _ _ _ _ _ _ _ _ _ _ _ _ _ _ _ _ _ _ _ _ _ _ _ _ _ _ _ _ _ _ _ _ _ _ _ _ _ _ _ _ _ _ _ _ _ _ _ _ _ _ _ _ _ _ _ _ _ _ _ _ _ _ _ _ _ _ _ _ _ _ _ W6 ln1 ln2 E7 E8 L1 L2 HM _ _ _ (by assumption) (by assumption)
  case rest =>
  obtain ⟨RB, KL⟩ := hcut
  obtain ⟨W7, rfl⟩ : ∃ W, W = wc := ⟨_, rfl⟩
  replace RB := RB.out
  obtain ⟨a9, c9, rfl, -⟩ := RB.form
  replace RB := Lib.hid RB
  replace v0 := KL.out.some v0
  replace v1 := KL.out.some v1
  replace u0 := KL.out.some u0
  replace u1 := KL.out.some u1
  replace KK := Lib.hid (KK.out.trans KL.out)
  replace E7 : Hid (∀ j, j < n1 → ∃ b off, a7 = some ⟨b, off, none⟩ ∧ W7.cell? ⟨b, off + j * 2, none⟩ = some (.int .i64 (atL x1 j)) ∧ W7.cell? ⟨b, off + j * 2 + 1, none⟩ = some (.int .i64 (szL x1 j))) := Lib.hid fun j hj => by obtain ⟨b, off, e, h1, h2⟩ := E7.out j hj; exact ⟨b, off, e, KL.out.some h1, KL.out.some h2⟩
  have HPK := Lib.hid (hPk.out.keep KK.out)
  clear KL E8 hPk
  go_upto_block 2 with fail
  go_cut [10] from 16 (fun v10 wx => ∃ out : List (Int × Int), Hid (RowAt wx v10 out) ∧ Hid (out.Sublist x1) ∧ Hid (Keep W7 wx))
  case first =>
    exact merges_loop2 x1 n1 c7 a7 pa pn pc pf _ _ _ _ _ _ _ _ _ _ _ _ _ _ _ _ _ _ _ _ _ _ _ _ _ _ _ _ _ _ _ _ _ _ _ _ _ _ _ _ _ _ _ _ _ _ _ _ _ _ _ _ _ _ _ _ _ _ _ _ _ _ _ _ _ _ _ _ _ _ _ _ _ _ _ _ _ _ _ _ _ _ _ _ _ _ _ _ _ _ _ _ _ _ _ _ _ _ _ _ _ _ _ _ _ _ _ _ _ _ _ _ _ _ _ _ _ _ _ _ _ _ _ _ _ _ _ _ _ _ _ _ _ _ _ _ _ _ _ _ _ _ _ _ _ _ _ _ _ _ _ _ _ _ _ _ _ _ _ _ _ _ _ _ _ _ _ _ _ _ _ _ W7 ln1 E7 HPK L1 _ _ _ (by assumption) (by assumption)
  case rest =>
  obtain ⟨out, RS, HSUB, KL⟩ := hcut
  obtain ⟨W8, rfl⟩ : ∃ W, W = wc := ⟨_, rfl⟩
  replace RS := RS.out
  obtain ⟨a10, c10, rfl, -⟩ := RS.form
  replace RS := Lib.hid RS
  replace v0 := KL.out.some v0
  replace v1 := KL.out.some v1
  replace u0 := KL.out.some u0
  replace u1 := KL.out.some u1
  replace KK := Lib.hid (KK.out.trans KL.out)
  replace RB := Lib.hid (RB.out.keep KL.out)
  have FS : Hid (fitsV P1 Q1 out = true) := Lib.hid (by unfold fitsV; rw [okBk_iff.2 (by omega), okT_sub ok1.out HSUB.out, fits_sub (by omega) (by omega) ok1.out HSUB.out F1.out]; rfl)
  have hrow : ∀ w' : World, RowAt (w'.alloc (.cells #[.int .i64 P1, .int .i64 Q1, .int .i64 P2, .int .i64 Q2] 30)) (.slice (some ⟨w'.heap.size, 0, none⟩) 2 2) [(P1, Q1), (P2, Q2)] := fun w' => rowNew w' [(P1, Q1), (P2, Q2)] _ (by simp)
  clear E7 HPK HSUB KL
  by_cases hbig : 1048576 < P1 + P2
  · have HS : Hid (sumR [(P1, Q1), (P2, Q2)] = ((0, 0), 6)) := Lib.hid (sum_two_big (by omega) (by omega) (by omega) (by omega) hbig)
    go_wp2_with (first | (go_at_call 7; ((with_reducible refine (sum_is _ [(P1, Q1), (P2, Q2)] 0 0 6 _ (Lib.hid (hrow _)) HS).mono ?_); rintro _ w1 ⟨rfl, hk⟩; have v0 := hk.some (by first | exact v0 | exact cell_alloc_old _ v0); have v1 := hk.some (by first | exact v1 | exact cell_alloc_old _ v1); have u0 := hk.some (by first | exact u0 | exact cell_alloc_old _ u0); have u1 := hk.some (by first | exact u1 | exact cell_alloc_old _ u1); have b6 := cellBlock v0; have b7 := cellBlock u0; have RB := Lib.hid ((RB.out.keep (by first | exact Keep.refl _ | exact Keep.alloc (Keep.refl _) _)).keep hk); have RS := Lib.hid ((RS.out.keep (by first | exact Keep.refl _ | exact Keep.alloc (Keep.refl _) _)).keep hk); have KK := Lib.hid (by first | exact KK.out.trans hk | exact (KK.out.alloc _).trans hk))) | (go_at_call 8; ((with_reducible refine (lawFits_any P1 Q1 _ out _ (Lib.hid (RS.out.keep (by first | exact Keep.refl _ | exact Keep.alloc (Keep.refl _) _))) true FS).mono ?_); rintro _ w1 ⟨rfl, hk⟩; have v0 := hk.some (by first | exact v0 | exact cell_alloc_old _ v0); have v1 := hk.some (by first | exact v1 | exact cell_alloc_old _ v1); have u0 := hk.some (by first | exact u0 | exact cell_alloc_old _ u0); have u1 := hk.some (by first | exact u1 | exact cell_alloc_old _ u1); have b6 := cellBlock v0; have b7 := cellBlock u0; have RB := Lib.hid ((RB.out.keep (by first | exact Keep.refl _ | exact Keep.alloc (Keep.refl _) _)).keep hk); have RS := Lib.hid ((RS.out.keep (by first | exact Keep.refl _ | exact Keep.alloc (Keep.refl _) _)).keep hk); have KK := Lib.hid (by first | exact KK.out.trans hk | exact (KK.out.alloc _).trans hk))))
    go_ret
    exact ⟨rfl, by first | exact KK.out | exact KK.out.alloc _⟩
  · have HS : Hid (sumR [(P1, Q1), (P2, Q2)] = ((P1 + P2, Q1 + Q2), 0)) := Lib.hid (sum_two (by omega) (by omega) (by omega) (by omega) (by omega) (by omega))
    have FM : Hid (fitsV (P1 + P2) (Q1 + Q2) M = true) := Lib.hid (by have hm := okT_merge ok1.out ok2.out (by rw [L1.out, L2.out]; omega); rw [HM.out] at hm; unfold fitsV; rw [okBk_iff.2 (by omega), hm, fits_merge (by omega) (by omega) (by omega) (by omega) ok1.out ok2.out hm (by rw [← HM.out]; exact List.merge_perm_append _) F1.out F2.out]; rfl)
    go_wp2_with (first | (go_at_call 7; ((with_reducible refine (sum_is _ [(P1, Q1), (P2, Q2)] (P1 + P2) (Q1 + Q2) 0 _ (Lib.hid (hrow _)) HS).mono ?_); rintro _ w1 ⟨rfl, hk⟩; have v0 := hk.some (by first | exact v0 | exact cell_alloc_old _ v0); have v1 := hk.some (by first | exact v1 | exact cell_alloc_old _ v1); have u0 := hk.some (by first | exact u0 | exact cell_alloc_old _ u0); have u1 := hk.some (by first | exact u1 | exact cell_alloc_old _ u1); have b6 := cellBlock v0; have b7 := cellBlock u0; have RB := Lib.hid ((RB.out.keep (by first | exact Keep.refl _ | exact Keep.alloc (Keep.refl _) _)).keep hk); have RS := Lib.hid ((RS.out.keep (by first | exact Keep.refl _ | exact Keep.alloc (Keep.refl _) _)).keep hk); have KK := Lib.hid (by first | exact KK.out.trans hk | exact (KK.out.alloc _).trans hk))) | (go_at_call 8; ((with_reducible refine (lawFits_any (P1 + P2) (Q1 + Q2) _ M _ (Lib.hid (RB.out.keep (by first | exact Keep.refl _ | exact Keep.alloc (Keep.refl _) _))) true FM).mono ?_); rintro _ w1 ⟨rfl, hk⟩; have v0 := hk.some (by first | exact v0 | exact cell_alloc_old _ v0); have v1 := hk.some (by first | exact v1 | exact cell_alloc_old _ v1); have u0 := hk.some (by first | exact u0 | exact cell_alloc_old _ u0); have u1 := hk.some (by first | exact u1 | exact cell_alloc_old _ u1); have b6 := cellBlock v0; have b7 := cellBlock u0; have RB := Lib.hid ((RB.out.keep (by first | exact Keep.refl _ | exact Keep.alloc (Keep.refl _) _)).keep hk); have RS := Lib.hid ((RS.out.keep (by first | exact Keep.refl _ | exact Keep.alloc (Keep.refl _) _)).keep hk); have KK := Lib.hid (by first | exact KK.out.trans hk | exact (KK.out.alloc _).trans hk))) | (go_at_call 8; ((with_reducible refine (lawFits_any P1 Q1 _ out _ RS true FS).mono ?_); rintro _ w1 ⟨rfl, hk⟩; have v0 := hk.some (by first | exact v0 | exact cell_alloc_old _ v0); have v1 := hk.some (by first | exact v1 | exact cell_alloc_old _ v1); have u0 := hk.some (by first | exact u0 | exact cell_alloc_old _ u0); have u1 := hk.some (by first | exact u1 | exact cell_alloc_old _ u1); have b6 := cellBlock v0; have b7 := cellBlock u0; have RB := Lib.hid ((RB.out.keep (by first | exact Keep.refl _ | exact Keep.alloc (Keep.refl _) _)).keep hk); have RS := Lib.hid ((RS.out.keep (by first | exact Keep.refl _ | exact Keep.alloc (Keep.refl _) _)).keep hk); have KK := Lib.hid (by first | exact KK.out.trans hk | exact (KK.out.alloc _).trans hk))))
    go_ret
    exact ⟨rfl, by first | exact KK.out | exact KK.out.alloc _⟩
end Go.Proofs.Ytaknbjjcgcmdlaa
