/- What trace, fits, first and bent of the statements' package return. Written by genlawfns.py. -/
import Derived.Test.YtaknbjjcgcmdlaaConf
import Derived.Test.YtaknbjjcgcmdlaaSearch
namespace Go.Proofs.Ytaknbjjcgcmdlaa
open Go Go.RowKit

/-- A slice of integers that reads as the list zs. -/
def IntsAt (w : World) (v : Value) (zs : List Int) : Prop := ∃ b off n cap, v = .slice (some ⟨b, off, none⟩) n cap ∧ zs.length = n ∧ n ≤ 1000 ∧ ∀ j, j < n → w.cell? ⟨b, off + j, none⟩ = some (.int .i64 (zs.getD j 0))
theorem IntsAt.keep {w w' : World} {v : Value} {zs : List Int} (h : IntsAt w v zs) (k : Keep w w') : IntsAt w' v zs := by
  obtain ⟨b, off, n, cap, h1, h2, h3, h4⟩ := h
  exact ⟨b, off, n, cap, h1, h2, h3, fun j hj => k.some (h4 j hj)⟩
/-- The pairs of a list. -/
def pairL (zs : List Int) (m : Nat) : List (Int × Int) := (List.range m).map fun k => (zs.getD (2 * k) 0, zs.getD (2 * k + 1) 0)
def pairsL (zs : List Int) : List (Int × Int) := pairL zs (zs.length / 2)
theorem pairL_succ (zs : List Int) (m : Nat) : pairL zs (m + 1) = pairL zs m ++ [(zs.getD (2 * m) 0, zs.getD (2 * m + 1) 0)] := by unfold pairL; rw [List.range_succ, List.map_append]; rfl
theorem pairL_len (zs : List Int) (m : Nat) : (pairL zs m).length = m := by simp [pairL]

set_option maxRecDepth 100000 in
set_option maxHeartbeats 4000000 in
theorem trace_row (b off m cap : Nat) (zs : List Int) (w : World) (hz : zs.length = m) (hm : m ≤ 1000) (hc : ∀ j, j < m → w.cell? ⟨b, off + j, none⟩ = some (.int .i64 (zs.getD j 0))) :
    Calls Try.prog 9 #[.slice (some ⟨b, off, none⟩) m cap] w (Makes (pairsL zs) w) := by
  obtain ⟨i0, hi, hz0, hz1, hz2⟩ := info_parts infoArrival
  have HC := Lib.hid hc
  have HZ := Lib.hid hz
  clear hc hz
  go_enter Try.func9, Try.ntmps9
  go_wp2
  go_loopw [3, 4] (fun s3 s4 wr => ∃ (i k : Nat), Hid (i = 2 * k) ∧ i ≤ m ∧ k ≤ m ∧ s4 = .int .i64 (i : Int) ∧ Hid (wr.ownsRow w.heap.size 35 2 s3 k (cellsL (pairL zs k)) ∧ Keep w wr)) (fun _ i _ => m - (intOf i).toNat)
  case atStart => exact ⟨0, 0, Lib.hid rfl, by omega, by omega, rfl, Lib.hid ⟨World.ownsRow_nil _ _ _ _, Keep.refl _⟩⟩
  case round =>
    obtain ⟨i, k, hik, hi1, hk1, rfl, HR⟩ := hrel
    by_cases hlt : i + 1 < m
    · obtain ⟨j, hj⟩ : ∃ j, i + 1 = j := ⟨_, rfl⟩
      have a0 := HC.out i (by omega)
      have a1 := HC.out j (by omega)
      obtain ⟨x, hx⟩ : ∃ x, zs.getD i 0 = x := ⟨_, rfl⟩
      obtain ⟨y, hy⟩ : ∃ y, zs.getD j 0 = y := ⟨_, rfl⟩
      rw [hx] at a0
      rw [hy] at a1
      obtain ⟨out, hout⟩ : ∃ out, pairL zs k = out := ⟨_, rfl⟩
      have HP : Hid (pairL zs (k + 1) = out ++ [(x, y)]) := Lib.hid (by rw [pairL_succ, ← hik.out, hj, hx, hy, hout])
      have HO := Lib.hid HR.out.1
      have HKW := Lib.hid HR.out.2
      have hlen : out.length = k := by rw [← hout, pairL_len]
      rw [hout] at HO
      clear hx hy hout HR
      have hl2 : ((i : Int) + 1 < (m : Int)) := by omega
      have hw1 : IntKind.i64.wrap ((i : Int) + 1) = (j : Int) := by rw [IntWalk.i64_in _ (by omega)]; omega
      have li : i < m := by omega
      have lj : j < m := by omega
      go_upto_region 5 with fail
      refine region_inv (J := fun bb aa wx => ∃ v3 v12 v13 v14 v15 v16 v17 v18 v19 v20 v21 v22 v23 v24 : Value, aa = ⟨#[Value.slice (some { block := b, off := off }) m cap, undef, Value.slice none 0 0, v3, Value.int IntKind.i64 ↑i, Value.int IntKind.i64 ↑i, Value.int IntKind.i64 ↑j, Value.slice (some { block := b, off := off }) m cap, Value.int IntKind.i64 ↑m, Value.bool true, u10, u11, v12, v13, v14, v15, v16, v17, v18, v19, v20, v21, v22, v23, v24, undef], []⟩ ∧ Keep w wx ∧ (bb 0 → v12 = u3) ∧ (bb 1 → v13 = .slice (some ⟨b, off, none⟩) m cap) ∧ (bb 2 → v14 = .int .i64 (i : Int)) ∧ (bb 3 → v15 = .pointer (some ⟨b, off + i, none⟩)) ∧ (bb 4 → v16 = .int .i64 x) ∧ (bb 5 → v17 = .slice (some ⟨b, off, none⟩) m cap) ∧ (bb 6 → v18 = .int .i64 (i : Int)) ∧ (bb 7 → v19 = .int .i64 (j : Int)) ∧ (bb 8 → v20 = .pointer (some ⟨b, off + j, none⟩)) ∧ (bb 9 → v21 = .int .i64 y) ∧ (bb 10 → v22 = .agg #[.int .i64 x, .int .i64 y]) ∧ (bb 11 → E7 (bb 12) x y wx v23) ∧ (bb 12 → (E8 w.heap.size k out x y wx v24)) ∧ (bb 13 → bb 12 ∧ v3 = v24) ∧ (bb 12 ∨ wx.ownsRow w.heap.size 35 2 u3 k (cellsL out)) ∧ (bb 13 ∨ v3 = u3) ∧ (bb 13 → bb 0)) (by kernel_rfl) (by kernel_rfl) ?donex ?startx ?stepsx
      case donex =>
        rintro bb aa wx hb ⟨v3, v12, v13, v14, v15, v16, v17, v18, v19, v20, v21, v22, v23, v24, rfl, G, f0, f1, f2, f3, f4, f5, f6, f7, f8, f9, f10, f11, f12, f13, x0, x1, x2⟩
        have g0 := f0 (hb 0 (by decide))
        have g1 := f1 (hb 1 (by decide))
        have g2 := f2 (hb 2 (by decide))
        have g3 := f3 (hb 3 (by decide))
        have g4 := f4 (hb 4 (by decide))
        have g5 := f5 (hb 5 (by decide))
        have g6 := f6 (hb 6 (by decide))
        have g7 := f7 (hb 7 (by decide))
        have g8 := f8 (hb 8 (by decide))
        have g9 := f9 (hb 9 (by decide))
        have g10 := f10 (hb 10 (by decide))
        have g11 := f11 (hb 11 (by decide))
        have g12 := f12 (hb 12 (by decide))
        have g13 := f13 (hb 13 (by decide))
        obtain rfl := g0
        obtain rfl := g1
        obtain rfl := g2
        obtain rfl := g3
        obtain rfl := g4
        obtain rfl := g5
        obtain rfl := g6
        obtain rfl := g7
        obtain rfl := g8
        obtain rfl := g9
        obtain rfl := g10
        obtain ⟨-, rfl⟩ := g13
        clear f0 f1 f2 f3 f4 f5 f6 f7 f8 f9 f10 f11 f12 f13
        obtain ⟨g, c, rfl, hown⟩ := g12
        clear hb g11
        go_wp2
        go_roundw
        case rel =>
          refine ⟨i + 2, k + 1, Lib.hid (by have := hik.out; omega), by omega, by have := hik.out; omega, ?_, Lib.hid ?_⟩
          · congr 1
          · rw [HP.out]
            exact ⟨hown, G⟩
        case measure => simp [intOf]; omega
      case startx => exact ⟨_, _, _, _, _, _, _, _, _, _, _, _, _, _, rfl, Keep.drew HKW.out, fun h => h.elim, fun h => h.elim, fun h => h.elim, fun h => h.elim, fun h => h.elim, fun h => h.elim, fun h => h.elim, fun h => h.elim, fun h => h.elim, fun h => h.elim, fun h => h.elim, fun h => h.elim, fun h => h.elim, fun h => h.elim, Or.inr HO.out, Or.inr rfl, fun h => h.elim⟩
      case stepsx =>
        refine StepsFrom.cons (k := 0) ?_ (StepsFrom.cons (k := 1) ?_ (StepsFrom.cons (k := 2) ?_ (StepsFrom.cons (k := 3) ?_ (StepsFrom.cons (k := 4) ?_ (StepsFrom.cons (k := 5) ?_ (StepsFrom.cons (k := 6) ?_ (StepsFrom.cons (k := 7) ?_ (StepsFrom.cons (k := 8) ?_ (StepsFrom.cons (k := 9) ?_ (StepsFrom.cons (k := 10) ?_ (StepsFrom.cons (k := 11) ?_ (StepsFrom.cons (k := 12) ?_ (StepsFrom.cons (k := 13) ?_ (StepsFrom.nil))))))))))))))
        · -- 0: val
          rintro bb aa wx hn hd ⟨v3, v12, v13, v14, v15, v16, v17, v18, v19, v20, v21, v22, v23, v24, rfl, G, f0, f1, f2, f3, f4, f5, f6, f7, f8, f9, f10, f11, f12, f13, x0, x1, x2⟩ K hK
          obtain rfl := x1.resolve_left (fun h => hn (x2 h))
          have HK := Lib.hid hK
          clear hK
          go_simp
          exact HK.out _ _ ⟨_, _, _, _, _, _, _, _, _, _, _, _, _, _, rfl, G, fun _ => rfl, up (by decide) f1, up (by decide) f2, up (by decide) f3, up (by decide) f4, up (by decide) f5, up (by decide) f6, up (by decide) f7, up (by decide) f8, up (by decide) f9, up (by decide) f10, fun h => (f11 (down (by decide) h)).keep (Keep.refl _) Or.inr, fun h => (f12 (down (by decide) h)).keep (Keep.refl _), fun h => ⟨Or.inr (f13 (down (by decide) h)).1, (f13 (down (by decide) h)).2⟩, x0.imp Or.inr (fun h => ownsKeep h (Keep.refl _)), x1.imp Or.inr id, fun _ => Or.inl rfl⟩
        · -- 1: val
          rintro bb aa wx hn hd ⟨v3, v12, v13, v14, v15, v16, v17, v18, v19, v20, v21, v22, v23, v24, rfl, G, f0, f1, f2, f3, f4, f5, f6, f7, f8, f9, f10, f11, f12, f13, x0, x1, x2⟩ K hK
          have HK := Lib.hid hK
          clear hK
          go_simp
          exact HK.out _ _ ⟨_, _, _, _, _, _, _, _, _, _, _, _, _, _, rfl, G, up (by decide) f0, fun _ => rfl, up (by decide) f2, up (by decide) f3, up (by decide) f4, up (by decide) f5, up (by decide) f6, up (by decide) f7, up (by decide) f8, up (by decide) f9, up (by decide) f10, fun h => (f11 (down (by decide) h)).keep (Keep.refl _) Or.inr, fun h => (f12 (down (by decide) h)).keep (Keep.refl _), fun h => ⟨Or.inr (f13 (down (by decide) h)).1, (f13 (down (by decide) h)).2⟩, x0.imp Or.inr (fun h => ownsKeep h (Keep.refl _)), x1.imp Or.inr id, fun h => Or.inr (x2 (down (by decide) h))⟩
        · -- 2: val
          rintro bb aa wx hn hd ⟨v3, v12, v13, v14, v15, v16, v17, v18, v19, v20, v21, v22, v23, v24, rfl, G, f0, f1, f2, f3, f4, f5, f6, f7, f8, f9, f10, f11, f12, f13, x0, x1, x2⟩ K hK
          have HK := Lib.hid hK
          clear hK
          go_simp
          exact HK.out _ _ ⟨_, _, _, _, _, _, _, _, _, _, _, _, _, _, rfl, G, up (by decide) f0, up (by decide) f1, fun _ => rfl, up (by decide) f3, up (by decide) f4, up (by decide) f5, up (by decide) f6, up (by decide) f7, up (by decide) f8, up (by decide) f9, up (by decide) f10, fun h => (f11 (down (by decide) h)).keep (Keep.refl _) Or.inr, fun h => (f12 (down (by decide) h)).keep (Keep.refl _), fun h => ⟨Or.inr (f13 (down (by decide) h)).1, (f13 (down (by decide) h)).2⟩, x0.imp Or.inr (fun h => ownsKeep h (Keep.refl _)), x1.imp Or.inr id, fun h => Or.inr (x2 (down (by decide) h))⟩
        · -- 3: val
          rintro bb aa wx hn hd ⟨v3, v12, v13, v14, v15, v16, v17, v18, v19, v20, v21, v22, v23, v24, rfl, G, f0, f1, f2, f3, f4, f5, f6, f7, f8, f9, f10, f11, f12, f13, x0, x1, x2⟩ K hK
          have b1 : bb 1 := hd ⟨1, .data⟩ (by simp) (by rfl)
          obtain rfl := f1 b1
          have b2 : bb 2 := hd ⟨2, .data⟩ (by simp) (by rfl)
          obtain rfl := f2 b2
          have HK := Lib.hid hK
          clear hK
          go_simp
          exact HK.out _ _ ⟨_, _, _, _, _, _, _, _, _, _, _, _, _, _, rfl, G, up (by decide) f0, fun _ => rfl, fun _ => rfl, fun _ => rfl, up (by decide) f4, up (by decide) f5, up (by decide) f6, up (by decide) f7, up (by decide) f8, up (by decide) f9, up (by decide) f10, fun h => (f11 (down (by decide) h)).keep (Keep.refl _) Or.inr, fun h => (f12 (down (by decide) h)).keep (Keep.refl _), fun h => ⟨Or.inr (f13 (down (by decide) h)).1, (f13 (down (by decide) h)).2⟩, x0.imp Or.inr (fun h => ownsKeep h (Keep.refl _)), x1.imp Or.inr id, fun h => Or.inr (x2 (down (by decide) h))⟩
        · -- 4: val
          rintro bb aa wx hn hd ⟨v3, v12, v13, v14, v15, v16, v17, v18, v19, v20, v21, v22, v23, v24, rfl, G, f0, f1, f2, f3, f4, f5, f6, f7, f8, f9, f10, f11, f12, f13, x0, x1, x2⟩ K hK
          have b3 : bb 3 := hd ⟨3, .data⟩ (by simp) (by rfl)
          obtain rfl := f3 b3
          have k0 := G.some a0
          have HK := Lib.hid hK
          clear hK
          go_simp
          exact HK.out _ _ ⟨_, _, _, _, _, _, _, _, _, _, _, _, _, _, rfl, G, up (by decide) f0, up (by decide) f1, up (by decide) f2, fun _ => rfl, fun _ => rfl, up (by decide) f5, up (by decide) f6, up (by decide) f7, up (by decide) f8, up (by decide) f9, up (by decide) f10, fun h => (f11 (down (by decide) h)).keep (Keep.refl _) Or.inr, fun h => (f12 (down (by decide) h)).keep (Keep.refl _), fun h => ⟨Or.inr (f13 (down (by decide) h)).1, (f13 (down (by decide) h)).2⟩, x0.imp Or.inr (fun h => ownsKeep h (Keep.refl _)), x1.imp Or.inr id, fun h => Or.inr (x2 (down (by decide) h))⟩
        · -- 5: val
          rintro bb aa wx hn hd ⟨v3, v12, v13, v14, v15, v16, v17, v18, v19, v20, v21, v22, v23, v24, rfl, G, f0, f1, f2, f3, f4, f5, f6, f7, f8, f9, f10, f11, f12, f13, x0, x1, x2⟩ K hK
          have HK := Lib.hid hK
          clear hK
          go_simp
          exact HK.out _ _ ⟨_, _, _, _, _, _, _, _, _, _, _, _, _, _, rfl, G, up (by decide) f0, up (by decide) f1, up (by decide) f2, up (by decide) f3, up (by decide) f4, fun _ => rfl, up (by decide) f6, up (by decide) f7, up (by decide) f8, up (by decide) f9, up (by decide) f10, fun h => (f11 (down (by decide) h)).keep (Keep.refl _) Or.inr, fun h => (f12 (down (by decide) h)).keep (Keep.refl _), fun h => ⟨Or.inr (f13 (down (by decide) h)).1, (f13 (down (by decide) h)).2⟩, x0.imp Or.inr (fun h => ownsKeep h (Keep.refl _)), x1.imp Or.inr id, fun h => Or.inr (x2 (down (by decide) h))⟩
        · -- 6: val
          rintro bb aa wx hn hd ⟨v3, v12, v13, v14, v15, v16, v17, v18, v19, v20, v21, v22, v23, v24, rfl, G, f0, f1, f2, f3, f4, f5, f6, f7, f8, f9, f10, f11, f12, f13, x0, x1, x2⟩ K hK
          have HK := Lib.hid hK
          clear hK
          go_simp
          exact HK.out _ _ ⟨_, _, _, _, _, _, _, _, _, _, _, _, _, _, rfl, G, up (by decide) f0, up (by decide) f1, up (by decide) f2, up (by decide) f3, up (by decide) f4, up (by decide) f5, fun _ => rfl, up (by decide) f7, up (by decide) f8, up (by decide) f9, up (by decide) f10, fun h => (f11 (down (by decide) h)).keep (Keep.refl _) Or.inr, fun h => (f12 (down (by decide) h)).keep (Keep.refl _), fun h => ⟨Or.inr (f13 (down (by decide) h)).1, (f13 (down (by decide) h)).2⟩, x0.imp Or.inr (fun h => ownsKeep h (Keep.refl _)), x1.imp Or.inr id, fun h => Or.inr (x2 (down (by decide) h))⟩
        · -- 7: val
          rintro bb aa wx hn hd ⟨v3, v12, v13, v14, v15, v16, v17, v18, v19, v20, v21, v22, v23, v24, rfl, G, f0, f1, f2, f3, f4, f5, f6, f7, f8, f9, f10, f11, f12, f13, x0, x1, x2⟩ K hK
          have b6 : bb 6 := hd ⟨6, .data⟩ (by simp) (by rfl)
          obtain rfl := f6 b6
          have HK := Lib.hid hK
          clear hK
          go_simp
          exact HK.out _ _ ⟨_, _, _, _, _, _, _, _, _, _, _, _, _, _, rfl, G, up (by decide) f0, up (by decide) f1, up (by decide) f2, up (by decide) f3, up (by decide) f4, up (by decide) f5, fun _ => rfl, fun _ => rfl, up (by decide) f8, up (by decide) f9, up (by decide) f10, fun h => (f11 (down (by decide) h)).keep (Keep.refl _) Or.inr, fun h => (f12 (down (by decide) h)).keep (Keep.refl _), fun h => ⟨Or.inr (f13 (down (by decide) h)).1, (f13 (down (by decide) h)).2⟩, x0.imp Or.inr (fun h => ownsKeep h (Keep.refl _)), x1.imp Or.inr id, fun h => Or.inr (x2 (down (by decide) h))⟩
        · -- 8: val
          rintro bb aa wx hn hd ⟨v3, v12, v13, v14, v15, v16, v17, v18, v19, v20, v21, v22, v23, v24, rfl, G, f0, f1, f2, f3, f4, f5, f6, f7, f8, f9, f10, f11, f12, f13, x0, x1, x2⟩ K hK
          have b5 : bb 5 := hd ⟨5, .data⟩ (by simp) (by rfl)
          obtain rfl := f5 b5
          have b7 : bb 7 := hd ⟨7, .data⟩ (by simp) (by rfl)
          obtain rfl := f7 b7
          have HK := Lib.hid hK
          clear hK
          go_simp
          exact HK.out _ _ ⟨_, _, _, _, _, _, _, _, _, _, _, _, _, _, rfl, G, up (by decide) f0, up (by decide) f1, up (by decide) f2, up (by decide) f3, up (by decide) f4, fun _ => rfl, up (by decide) f6, fun _ => rfl, fun _ => rfl, up (by decide) f9, up (by decide) f10, fun h => (f11 (down (by decide) h)).keep (Keep.refl _) Or.inr, fun h => (f12 (down (by decide) h)).keep (Keep.refl _), fun h => ⟨Or.inr (f13 (down (by decide) h)).1, (f13 (down (by decide) h)).2⟩, x0.imp Or.inr (fun h => ownsKeep h (Keep.refl _)), x1.imp Or.inr id, fun h => Or.inr (x2 (down (by decide) h))⟩
        · -- 9: val
          rintro bb aa wx hn hd ⟨v3, v12, v13, v14, v15, v16, v17, v18, v19, v20, v21, v22, v23, v24, rfl, G, f0, f1, f2, f3, f4, f5, f6, f7, f8, f9, f10, f11, f12, f13, x0, x1, x2⟩ K hK
          have b8 : bb 8 := hd ⟨8, .data⟩ (by simp) (by rfl)
          obtain rfl := f8 b8
          have k0 := G.some a1
          have HK := Lib.hid hK
          clear hK
          go_simp
          exact HK.out _ _ ⟨_, _, _, _, _, _, _, _, _, _, _, _, _, _, rfl, G, up (by decide) f0, up (by decide) f1, up (by decide) f2, up (by decide) f3, up (by decide) f4, up (by decide) f5, up (by decide) f6, up (by decide) f7, fun _ => rfl, fun _ => rfl, up (by decide) f10, fun h => (f11 (down (by decide) h)).keep (Keep.refl _) Or.inr, fun h => (f12 (down (by decide) h)).keep (Keep.refl _), fun h => ⟨Or.inr (f13 (down (by decide) h)).1, (f13 (down (by decide) h)).2⟩, x0.imp Or.inr (fun h => ownsKeep h (Keep.refl _)), x1.imp Or.inr id, fun h => Or.inr (x2 (down (by decide) h))⟩
        · -- 10: val
          rintro bb aa wx hn hd ⟨v3, v12, v13, v14, v15, v16, v17, v18, v19, v20, v21, v22, v23, v24, rfl, G, f0, f1, f2, f3, f4, f5, f6, f7, f8, f9, f10, f11, f12, f13, x0, x1, x2⟩ K hK
          have b4 : bb 4 := hd ⟨4, .data⟩ (by simp) (by rfl)
          obtain rfl := f4 b4
          have b9 : bb 9 := hd ⟨9, .data⟩ (by simp) (by rfl)
          obtain rfl := f9 b9
          have HK := Lib.hid hK
          clear hK
          go_simp
          exact HK.out _ _ ⟨_, _, _, _, _, _, _, _, _, _, _, _, _, _, rfl, G, up (by decide) f0, up (by decide) f1, up (by decide) f2, up (by decide) f3, fun _ => rfl, up (by decide) f5, up (by decide) f6, up (by decide) f7, up (by decide) f8, fun _ => rfl, fun _ => rfl, fun h => (f11 (down (by decide) h)).keep (Keep.refl _) Or.inr, fun h => (f12 (down (by decide) h)).keep (Keep.refl _), fun h => ⟨Or.inr (f13 (down (by decide) h)).1, (f13 (down (by decide) h)).2⟩, x0.imp Or.inr (fun h => ownsKeep h (Keep.refl _)), x1.imp Or.inr id, fun h => Or.inr (x2 (down (by decide) h))⟩
        · -- 11: fact
          rintro bb aa wx hn hd ⟨v3, v12, v13, v14, v15, v16, v17, v18, v19, v20, v21, v22, v23, v24, rfl, G, f0, f1, f2, f3, f4, f5, f6, f7, f8, f9, f10, f11, f12, f13, x0, x1, x2⟩ K hK
          have b10 : bb 10 := hd ⟨10, .data⟩ (by simp) (by rfl)
          obtain rfl := f10 b10
          have HK := Lib.hid hK
          clear hK
          go_simp
          exact HK.out _ _ ⟨_, _, _, _, _, _, _, _, _, _, _, _, _, _, rfl, (G.trans (Keep.alloc (Keep.refl _) _)), up (by decide) f0, up (by decide) f1, up (by decide) f2, up (by decide) f3, up (by decide) f4, up (by decide) f5, up (by decide) f6, up (by decide) f7, up (by decide) f8, up (by decide) f9, fun _ => rfl, fun _ => Or.inr ⟨_, rfl, by simp [go_sem], by simp [go_sem]⟩, fun h => (f12 (down (by decide) h)).keep (Keep.alloc (Keep.refl _) _), fun h => ⟨Or.inr (f13 (down (by decide) h)).1, (f13 (down (by decide) h)).2⟩, x0.imp Or.inr (fun h => ownsKeep h (Keep.alloc (Keep.refl _) _)), x1.imp Or.inr id, fun h => Or.inr (x2 (down (by decide) h))⟩
        · -- 12: fact
          rintro bb aa wx hn hd ⟨v3, v12, v13, v14, v15, v16, v17, v18, v19, v20, v21, v22, v23, v24, rfl, G, f0, f1, f2, f3, f4, f5, f6, f7, f8, f9, f10, f11, f12, f13, x0, x1, x2⟩ K hK
          have b0 : bb 0 := hd ⟨0, .data⟩ (by simp) (by rfl)
          obtain rfl := f0 b0
          have b11 : bb 11 := hd ⟨11, .data⟩ (by simp) (by rfl)
          obtain ⟨Y1, rfl, hy0, hy1⟩ := (f11 b11).resolve_left hn
          have hown0 := x0.resolve_left hn
          have HK := Lib.hid hK
          clear hK
          refine step_append_lies _ rfl (.tmp 12) (.tmp 23) 32 rfl w.heap.size 35 i0 (.agg #[.int .i64 0, .int .i64 0]) 2 16 Try.underlying32 hi hz0 hz1 hz2 rfl (by decide) _ _ _ rfl hown0 ⟨Y1, 0, none⟩ 1 1 [.int .i64 x, .int .i64 y] rfl rfl (cells_two hy0 hy1) (by intro u hu; simp at hu; rcases hu with rfl | rfl <;> rfl) (by omega) (by unfold maxLen; omega) (by omega) G.size _ rfl ?_
          intro g2 cap2 w1 hown hgrow _ _
          rw [show cellsL out ++ [.int .i64 x, .int .i64 y] = cellsL (out ++ [(x, y)]) by rw [cellsL_append]; rfl] at hown
          exact HK.out _ _ ⟨_, _, _, _, _, _, _, _, _, _, _, _, _, _, rfl, (Keep.byRow G hgrow (fun j hj => (hown0.lt j hj).1)), fun _ => rfl, up (by decide) f1, up (by decide) f2, up (by decide) f3, up (by decide) f4, up (by decide) f5, up (by decide) f6, up (by decide) f7, up (by decide) f8, up (by decide) f9, up (by decide) f10, fun _ => Or.inl (Or.inl rfl), fun _ => ⟨_, _, rfl, hown⟩, fun h => absurd (f13 (down (by decide) h)).1 hn, Or.inl (Or.inl rfl), x1.imp Or.inr id, fun h => Or.inr (x2 (down (by decide) h))⟩
        · -- 13: val
          rintro bb aa wx hn hd ⟨v3, v12, v13, v14, v15, v16, v17, v18, v19, v20, v21, v22, v23, v24, rfl, G, f0, f1, f2, f3, f4, f5, f6, f7, f8, f9, f10, f11, f12, f13, x0, x1, x2⟩ K hK
          have b12 : bb 12 := hd ⟨12, .data⟩ (by simp) (by rfl)
          have bp0 : bb 0 := hd ⟨0, .phase⟩ (by simp) (by rfl)
          have HK := Lib.hid hK
          clear hK
          go_simp
          exact HK.out _ _ ⟨_, _, _, _, _, _, _, _, _, _, _, _, _, _, rfl, G, up (by decide) f0, up (by decide) f1, up (by decide) f2, up (by decide) f3, up (by decide) f4, up (by decide) f5, up (by decide) f6, up (by decide) f7, up (by decide) f8, up (by decide) f9, up (by decide) f10, fun h => (f11 (down (by decide) h)).keep (Keep.refl _) Or.inr, fun h => (f12 (down (by decide) h)).keep (Keep.refl _), fun _ => ⟨Or.inr b12, rfl⟩, x0.imp Or.inr (fun h => ownsKeep h (Keep.refl _)), Or.inl (Or.inl rfl), fun _ => Or.inr bp0⟩
    · have hl2 : ¬ ((i : Int) + 1 < (m : Int)) := by omega
      have hk : k = m / 2 := by have := hik.out; omega
      go_wp2
      go_ret
      exact ⟨_, rfl, by unfold pairsL; rw [HZ.out, ← hk]; exact rowAtOwns HR.out.1, HR.out.2, freshOwns HR.out.1 (Nat.le_refl _)⟩

end Go.Proofs.Ytaknbjjcgcmdlaa
