/- BucketChecks' walk: Check, CheckTrace, Within and Sum of the program and of the reference return the same. Written by genchecks.py. -/
import Derived.Test.YtigogelabokpbaaLawConforms
import Derived.Test.YtigogelabokpbaaRefSum
namespace Go.Proofs.Ytigogelabokpbaa
open Go Go.RowKit

theorem refSum_is (v : Value) (l : List (Int × Int)) (x y E : Int) (w : World) (h : Hid (RowAt w v l)) (H : Hid (sumR l = ((x, y), E))) : Calls Try.prog 12 #[v] w (Res (.tuple #[.agg #[.int .i64 x, .int .i64 y], .int .i64 E]) w) := by
  have := refSum_any v l w h.out
  rw [H.out] at this
  exact this
theorem refWithin_is (B R t q E : Int) (w : World) (H : Hid (withinR B R t = (q, E))) : Calls Try.prog 14 #[.agg #[.int .i64 B, .int .i64 R], .int .i64 t] w (Res (.tuple #[.int .i64 q, .int .i64 E]) w) := by
  have := refWithin_any B R t w
  rw [H.out] at this
  exact this
theorem refCheck_is (B R E : Int) (w : World) (H : Hid (checkE B R = E)) : Calls Try.prog 16 #[.agg #[.int .i64 B, .int .i64 R]] w (Res (.int .i64 E) w) := by
  have := refCheck_any B R w
  rwa [H.out] at this
theorem buckets_cut (a : Option Addr) (n cap m : Nat) (h : m ≤ cap) (w : World) : (Instr.slice 28 (.slice a n cap) none (some (.int .i64 (m : Int))) none).run Try.prog w = .ok (.slice a m cap) w :=
  slice_any _ (fun w => by simp [go_sem]) (by kernel_rfl) a n cap m h w
theorem infoBucket : (Try.prog.info? 23).map (fun i => (i.zero, i.size, i.bytes)) = some (some (.agg #[.int .i64 0, .int .i64 0]), 2, 16) := by kernel_rfl
/-- A row of one bucket in a block of its own, which no call has grown yet. -/
theorem ownsOne (w : World) (l : List (Int × Int)) (e : TypeId) (h : l.length ≤ 1000) : (w.alloc (.cells (cellsL l).toArray e)).ownsRow w.heap.size e 2 (.slice (some ⟨w.heap.size, 0, none⟩) l.length l.length) l.length (cellsL l) := by
  refine ⟨cellsL_len l, Or.inr ⟨w.heap.size, l.length, (cellsL l).toArray, rfl, Nat.le_refl _, World.alloc_heap_new _ _, Nat.le_refl _, by unfold maxLen; omega, by simp [cellsL_len], ?_⟩⟩
  simp [← cellsL_len]
def F7 (p : Prop) (w : World) (u : Value) : Prop := p ∨ ∃ (Y : Nat) (x y : Int), u = .slice (some ⟨Y, 0, none⟩) 1 1 ∧ w.cell? ⟨Y, 0, none⟩ = some (.int .i64 x) ∧ w.cell? ⟨Y, 1, none⟩ = some (.int .i64 y)
theorem F7.keep {p q : Prop} {w w' : World} {u : Value} (h : F7 p w u) (k : Keep w w') (hpq : p → q) : F7 q w' u := by
  rcases h with h | ⟨Y, x, y, h1, h2, h3⟩
  · exact Or.inl (hpq h)
  · exact Or.inr ⟨Y, x, y, h1, k.some h2, k.some h3⟩
def F8 (base n : Nat) (w : World) (u : Value) : Prop := ∃ g c ms, u = .slice (some ⟨g, 0, none⟩) (n + 1) c ∧ w.ownsRow base 23 2 (.slice (some ⟨g, 0, none⟩) (n + 1) c) (n + 1) (cellsL ms)
theorem F8.keep {base n : Nat} {w w' : World} {u : Value} (h : F8 base n w u) (k : Keep w w') : F8 base n w' u := by
  obtain ⟨g, c, ms, h1, h2⟩ := h
  exact ⟨g, c, ms, h1, ownsKeep h2 k⟩

set_option maxRecDepth 100000 in
set_option maxHeartbeats 8000000 in
theorem checks_walk (B R : Int) (ga sa : Option Addr) (gl gc sl sc : Nat) (gs ss : List Int) (b0 b1 x y t p z1 z2 : Int) (a0 : Option Addr) (n cap m : Nat) (l0 : List (Int × Int)) (w : World) (hD : Hid (DraftAt w (.agg #[.int .u32 B, .int .u32 R, .slice ga gl gc, .slice sa sl sc]) B R gs ss)) (X Y : Int) (HX : Hid (bOf B = X)) (HY : Hid (rOf R = Y)) (l : List (Int × Int)) (Hl : Hid (traceD gs ss (min ss.length 30) = l)) (Hok : Hid (okT l = true)) (Hb : Hid (okBk X Y = true)) (hlen30 : l.length ≤ 30) (hRow : Hid (RowAt w (.slice a0 n cap) l0)) (hmn : m ≤ n) (hm14 : m ≤ 14) (hmin : min (n : Int) 14 = (m : Int))
    (hz1 : (IntKind.u64.wrap t).tmod 1099511627776 = z1) (hz2 : IntKind.u64.wrap t % 1099511627776 = z1) (_bz1 : 0 ≤ z1 ∧ z1 < 1099511627776) (hz3 : (IntKind.u64.wrap t).tmod 99 = z2) (hz4 : IntKind.u64.wrap t % 99 = z2) (bz2 : 0 ≤ z2 ∧ z2 < 99) (hp1 : IntKind.u8.wrap t = p) (hp : 0 ≤ p ∧ p ≤ 255) :
    Calls Try.prog 3 #[.agg #[.int .i64 b0, .int .i64 b1], .agg #[.int .u32 B, .int .u32 R, .slice ga gl gc, .slice sa sl sc], .slice a0 n cap, .agg #[.int .i64 x, .int .i64 y], .int .i64 t] w (Res (.bool true) w) := by
  obtain ⟨i0, hi, hz0, hy1, hy2⟩ := info_parts infoBucket
  have q0 : (((w.alloc (.cells #[.int .i64 b0, .int .i64 b1] 23)).alloc (.cells #[.int .u32 B, .int .u32 R, .slice ga gl gc, .slice sa sl sc] 27)).alloc (.cells #[.int .i64 x, .int .i64 y] 30)).cell? ⟨w.heap.size, 0, none⟩ = some (.int .i64 b0) := by simp [go_sem]
  have q1 : (((w.alloc (.cells #[.int .i64 b0, .int .i64 b1] 23)).alloc (.cells #[.int .u32 B, .int .u32 R, .slice ga gl gc, .slice sa sl sc] 27)).alloc (.cells #[.int .i64 x, .int .i64 y] 30)).cell? ⟨w.heap.size, 1, none⟩ = some (.int .i64 b1) := by simp [go_sem]
  have d0 : (((w.alloc (.cells #[.int .i64 b0, .int .i64 b1] 23)).alloc (.cells #[.int .u32 B, .int .u32 R, .slice ga gl gc, .slice sa sl sc] 27)).alloc (.cells #[.int .i64 x, .int .i64 y] 30)).cell? ⟨w.heap.size + 1, 0, none⟩ = some (.int .u32 B) := by simp [go_sem]
  have d1 : (((w.alloc (.cells #[.int .i64 b0, .int .i64 b1] 23)).alloc (.cells #[.int .u32 B, .int .u32 R, .slice ga gl gc, .slice sa sl sc] 27)).alloc (.cells #[.int .i64 x, .int .i64 y] 30)).cell? ⟨w.heap.size + 1, 1, none⟩ = some (.int .u32 R) := by simp [go_sem]
  have d2 : (((w.alloc (.cells #[.int .i64 b0, .int .i64 b1] 23)).alloc (.cells #[.int .u32 B, .int .u32 R, .slice ga gl gc, .slice sa sl sc] 27)).alloc (.cells #[.int .i64 x, .int .i64 y] 30)).cell? ⟨w.heap.size + 1, 2, none⟩ = some (.slice ga gl gc) := by simp [go_sem]
  have d3 : (((w.alloc (.cells #[.int .i64 b0, .int .i64 b1] 23)).alloc (.cells #[.int .u32 B, .int .u32 R, .slice ga gl gc, .slice sa sl sc] 27)).alloc (.cells #[.int .i64 x, .int .i64 y] 30)).cell? ⟨w.heap.size + 1, 3, none⟩ = some (.slice sa sl sc) := by simp [go_sem]
  have e0 : (((w.alloc (.cells #[.int .i64 b0, .int .i64 b1] 23)).alloc (.cells #[.int .u32 B, .int .u32 R, .slice ga gl gc, .slice sa sl sc] 27)).alloc (.cells #[.int .i64 x, .int .i64 y] 30)).cell? ⟨w.heap.size + 1 + 1, 0, none⟩ = some (.int .i64 x) := by simp [go_sem]
  have e1 : (((w.alloc (.cells #[.int .i64 b0, .int .i64 b1] 23)).alloc (.cells #[.int .u32 B, .int .u32 R, .slice ga gl gc, .slice sa sl sc] 27)).alloc (.cells #[.int .i64 x, .int .i64 y] 30)).cell? ⟨w.heap.size + 1 + 1, 1, none⟩ = some (.int .i64 y) := by simp [go_sem]
  have KK := Lib.hid (((Keep.alloc (Keep.refl w) (.cells #[.int .i64 b0, .int .i64 b1] 23)).alloc (.cells #[.int .u32 B, .int .u32 R, .slice ga gl gc, .slice sa sl sc] 27)).alloc (.cells #[.int .i64 x, .int .i64 y] 30))
  have HD := Lib.hid (hD.out.keep KK.out)
  have hcut := hRow.out.cut hmn
  have hsl : ∀ w', (Instr.slice 28 (.slice a0 n cap) none (some (.int .i64 (m : Int))) none).run Try.prog w' = .ok (.slice a0 m cap) w' := fun w' => buckets_cut a0 n cap m (by omega) w'
  have hsa : ∀ w', (Instr.sliceAt 28 (.slice a0 n cap) none (some (.int .i64 (m : Int))) none).run Try.prog w' = .ok (.slice a0 m cap) w' := fun w' => by
    rw [run_sliceAt_slice (h := by kernel_rfl)]; exact hsl w'
  have RL := Lib.hid (hcut.1.keep KK.out)
  have bk := okBk_iff.1 Hb.out
  clear hD hRow hcut
  go_enter Try.func3, Try.ntmps3
  go_wp2_with (go_at_call 10; ((with_reducible refine (draftBucket_is _ B R gs ss _ HD X Y HX HY).mono ?_); rintro _ w1 ⟨rfl, hk⟩; have KK := Lib.hid (KK.out.trans hk); have q0 := hk.some q0; have q1 := hk.some q1; have d0 := hk.some d0; have d1 := hk.some d1; have d2 := hk.some d2; have d3 := hk.some d3; have e0 := hk.some e0; have e1 := hk.some e1; have HD := Lib.hid (HD.out.keep hk); have RL := Lib.hid (RL.out.keep hk)))
  have o0 : (w1.alloc (.cells #[.int .i64 X, .int .i64 Y] 23)).cell? ⟨w1.heap.size, 0, none⟩ = some (.int .i64 X) := by simp [go_sem]
  have o1 : (w1.alloc (.cells #[.int .i64 X, .int .i64 Y] 23)).cell? ⟨w1.heap.size, 1, none⟩ = some (.int .i64 Y) := by simp [go_sem]
  have q0 := cell_alloc_old (.cells #[.int .i64 X, .int .i64 Y] 23) q0
  have q1 := cell_alloc_old (.cells #[.int .i64 X, .int .i64 Y] 23) q1
  have d0 := cell_alloc_old (.cells #[.int .i64 X, .int .i64 Y] 23) d0
  have d1 := cell_alloc_old (.cells #[.int .i64 X, .int .i64 Y] 23) d1
  have d2 := cell_alloc_old (.cells #[.int .i64 X, .int .i64 Y] 23) d2
  have d3 := cell_alloc_old (.cells #[.int .i64 X, .int .i64 Y] 23) d3
  have e0 := cell_alloc_old (.cells #[.int .i64 X, .int .i64 Y] 23) e0
  have e1 := cell_alloc_old (.cells #[.int .i64 X, .int .i64 Y] 23) e1
  have HD := Lib.hid (HD.out.keep (Keep.alloc (Keep.refl w1) (.cells #[.int .i64 X, .int .i64 Y] 23)))
  have RL := Lib.hid (RL.out.keep (Keep.alloc (Keep.refl w1) (.cells #[.int .i64 X, .int .i64 Y] 23)))
  have KK := Lib.hid (KK.out.alloc (.cells #[.int .i64 X, .int .i64 Y] 23))
  obtain ⟨BX, hBX⟩ : ∃ BX, w1.heap.size = BX := ⟨_, rfl⟩
  obtain ⟨W1, hW1⟩ : ∃ W1, w1.alloc (.cells #[.int .i64 X, .int .i64 Y] 23) = W1 := ⟨_, rfl⟩
  rw [hBX] at o0 o1 ⊢
  rw [hW1] at o0 o1 q0 q1 d0 d1 d2 d3 e0 e1 HD KK RL ⊢
  clear hW1 hBX
  have HEL := Lib.hid RL.out.form
  have HLN : Hid (m = (l0.take m).length ∨ True) := Lib.hid (Or.inr trivial)
  have hlen : (l0.take m).length = m := by
    rcases RL.out with ⟨h, h'⟩ | ⟨_, _, _, _, h, h', _⟩
    · cases h; simp
    · cases h; exact h'
  go_loopw [12, 13] (fun s12 s13 wr => ∃ (k : Nat) (ms : List (Int × Int)), k ≤ m ∧ s13 = .int .i64 (k : Int) ∧ Hid (wr.ownsRow W1.heap.size 23 2 s12 k (cellsL ms) ∧ Keep W1 wr)) (fun _ i _ => m - (intOf i).toNat)
  case atStart => exact ⟨0, [], Nat.zero_le _, rfl, Lib.hid ⟨World.ownsRow_nil _ _ _ _, Keep.refl _⟩⟩
  case round =>
    obtain ⟨k, out, hk, rfl, HR⟩ := hrel
    by_cases hlt : k < m
    · obtain ⟨a1, cap1, e2, hel⟩ := HEL.out
      rw [hlen] at e2 hel
      cases e2
      obtain ⟨b, off, rfl, c0, c1⟩ := hel k hlt
      have hlt' : (k : Int) < (m : Int) := by omega
      obtain ⟨g1, hg1⟩ : ∃ g1, atL (l0.take m) k = g1 := ⟨_, rfl⟩
      obtain ⟨g2, hg2⟩ : ∃ g2, szL (l0.take m) k = g2 := ⟨_, rfl⟩
      rw [hg1] at c0
      rw [hg2] at c1
      have HO := Lib.hid HR.out.1
      have HKW := Lib.hid HR.out.2
      clear hel hg1 hg2 HR
      go_upto_region 7 with fail
      refine region_inv (J := fun bb aa wx => ∃ v12 v42 v43 v44 v45 v46 v47 v48 v49 v50 v51 v52 v53 v54 v55 v56 v57 v58 v59 v60 v61 v62 v63 : Value, aa = ⟨#[Value.agg #[Value.int IntKind.i64 b0, Value.int IntKind.i64 b1], Value.agg #[Value.int IntKind.u32 B, Value.int IntKind.u32 R, Value.slice ga gl gc, Value.slice sa sl sc], Value.slice (some { block := b, off := off }) m cap, Value.agg #[Value.int IntKind.i64 x, Value.int IntKind.i64 y], Value.int IntKind.i64 t, Value.pointer (some { block := w.heap.size, off := 0 }), Value.pointer (some { block := w.heap.size + 1, off := 0 }), undef, Value.pointer (some { block := w.heap.size + 1 + 1, off := 0 }), undef, Value.bool false, Value.pointer (some { block := BX, off := 0 }), v12, Value.int IntKind.i64 ↑k, undef, undef, undef, undef, undef, undef, undef, undef, undef, undef, undef, undef, undef, undef, undef, Value.slice (some { block := b, off := off }) n cap, Value.slice (some { block := b, off := off }) n cap, Value.int IntKind.i64 ↑n, Value.int IntKind.i64 ↑m, Value.slice (some { block := b, off := off }) m cap, Value.agg #[Value.int IntKind.u32 B, Value.int IntKind.u32 R, Value.slice ga gl gc, Value.slice sa sl sc], Value.agg #[Value.int IntKind.i64 X, Value.int IntKind.i64 Y], Value.int IntKind.i64 ↑k, Value.slice (some { block := b, off := off }) m cap, Value.int IntKind.i64 ↑m, Value.bool true, u40, u41, v42, v43, v44, v45, v46, v47, v48, v49, v50, v51, v52, v53, v54, v55, v56, v57, v58, v59, v60, v61, v62, v63, undef, undef, undef, undef, undef, undef, undef, undef, undef, undef, undef, undef, undef, undef, undef, undef, undef, undef, undef, undef, undef, undef, undef, undef, undef, undef, undef, undef, undef, undef, undef, undef, undef, undef, undef, undef, undef, undef, undef, undef, undef, undef, undef, undef, undef, undef, undef, undef, undef, undef, undef, undef, undef, undef, undef, undef, undef, undef, undef, undef, undef, undef, undef, undef, undef, undef, undef, undef, undef, undef, undef, undef, undef, undef, undef, undef, undef, undef, undef, undef, undef, undef, undef, undef, undef, undef, undef, undef, undef, undef, undef, undef, undef, undef, undef, undef, undef, undef, undef, undef, undef, undef, undef, undef, undef, undef], []⟩ ∧ Keep W1 wx ∧ (bb 0 → v42 = u12) ∧ (bb 1 → v43 = .slice (some ⟨b, off, none⟩) m cap) ∧ (bb 2 → v44 = .int .i64 (k : Int)) ∧ (bb 3 → v45 = .pointer (some ⟨b, off + k * 2, none⟩)) ∧ (bb 4 → v46 = .pointer (some ⟨b, off + k * 2, none⟩)) ∧ (bb 5 → v47 = .int .i64 g1) ∧ (bb 6 → (∃ z : Int, v48 = .int .u64 z)) ∧ (bb 7 → (∃ z : Int, v49 = .int .u64 z)) ∧ (bb 8 → (∃ z : Int, v50 = .int .i64 z)) ∧ (bb 9 → (∃ z : Int, v51 = .int .i64 z)) ∧ (bb 10 → v52 = .slice (some ⟨b, off, none⟩) m cap) ∧ (bb 11 → v53 = .int .i64 (k : Int)) ∧ (bb 12 → v54 = .pointer (some ⟨b, off + k * 2, none⟩)) ∧ (bb 13 → v55 = .pointer (some ⟨b, off + k * 2 + 1, none⟩)) ∧ (bb 14 → v56 = .int .i64 g2) ∧ (bb 15 → (∃ z : Int, v57 = .int .u64 z)) ∧ (bb 16 → (∃ z : Int, v58 = .int .u64 z)) ∧ (bb 17 → (∃ z : Int, v59 = .int .i64 z)) ∧ (bb 18 → (∃ z : Int, v60 = .int .i64 z)) ∧ (bb 19 → (∃ x y : Int, v61 = .agg #[.int .i64 x, .int .i64 y])) ∧ (bb 20 → F7 (bb 21) wx v62) ∧ (bb 21 → F8 W1.heap.size k wx v63) ∧ (bb 22 → bb 21 ∧ v12 = v63) ∧ (bb 21 ∨ wx.ownsRow W1.heap.size 23 2 u12 k (cellsL out)) ∧ (bb 22 ∨ v12 = u12) ∧ (bb 22 → bb 0)) (by kernel_rfl) (by kernel_rfl) ?donex ?startx ?stepsx
      case donex =>
        rintro bb aa wx hb ⟨v12, v42, v43, v44, v45, v46, v47, v48, v49, v50, v51, v52, v53, v54, v55, v56, v57, v58, v59, v60, v61, v62, v63, rfl, G, f0, f1, f2, f3, f4, f5, f6, f7, f8, f9, f10, f11, f12, f13, f14, f15, f16, f17, f18, f19, f20, f21, f22, x0, x1, x2⟩
        have g0 := f0 (hb 0 (by decide))
        have g1 := f1 (hb 1 (by decide))
        have g2 := f2 (hb 2 (by decide))
        have g3 := f3 (hb 3 (by decide))
        have g4 := f4 (hb 4 (by decide))
        have g5 := f5 (hb 5 (by decide))
        have g6 := f6 (hb 6 (by decide))
        have g7 := f7 (hb 7 (by decide))
        have g8 := f8 (hb 8 (by decide))
        have g9 := f9 (hb 9 (by decide))
        have g10 := f10 (hb 10 (by decide))
        have g11 := f11 (hb 11 (by decide))
        have g12 := f12 (hb 12 (by decide))
        have g13 := f13 (hb 13 (by decide))
        have g14 := f14 (hb 14 (by decide))
        have g15 := f15 (hb 15 (by decide))
        have g16 := f16 (hb 16 (by decide))
        have g17 := f17 (hb 17 (by decide))
        have g18 := f18 (hb 18 (by decide))
        have g19 := f19 (hb 19 (by decide))
        have g20 := f20 (hb 20 (by decide))
        have g21 := f21 (hb 21 (by decide))
        have g22 := f22 (hb 22 (by decide))
        obtain rfl := g0
        obtain rfl := g1
        obtain rfl := g2
        obtain rfl := g3
        obtain rfl := g4
        obtain rfl := g5
        obtain rfl := g10
        obtain rfl := g11
        obtain rfl := g12
        obtain rfl := g13
        obtain rfl := g14
        obtain ⟨-, rfl⟩ := g22
        clear f0 f1 f2 f3 f4 f5 f6 f7 f8 f9 f10 f11 f12 f13 f14 f15 f16 f17 f18 f19 f20 f21 f22
        obtain ⟨g, c, ms, rfl, hown⟩ := g21
        clear hb g20
        go_wp2
        go_roundw
        case rel => exact ⟨k + 1, ms, by omega, by congr 1, Lib.hid ⟨hown, G⟩⟩
        case measure => simp [intOf]; omega
      case startx => exact ⟨_, _, _, _, _, _, _, _, _, _, _, _, _, _, _, _, _, _, _, _, _, _, _, rfl, Keep.drew HKW.out, fun h => h.elim, fun h => h.elim, fun h => h.elim, fun h => h.elim, fun h => h.elim, fun h => h.elim, fun h => h.elim, fun h => h.elim, fun h => h.elim, fun h => h.elim, fun h => h.elim, fun h => h.elim, fun h => h.elim, fun h => h.elim, fun h => h.elim, fun h => h.elim, fun h => h.elim, fun h => h.elim, fun h => h.elim, fun h => h.elim, fun h => h.elim, fun h => h.elim, fun h => h.elim, Or.inr HO.out, Or.inr rfl, fun h => h.elim⟩
      case stepsx =>
        refine StepsFrom.cons (k := 0) ?_ (StepsFrom.cons (k := 1) ?_ (StepsFrom.cons (k := 2) ?_ (StepsFrom.cons (k := 3) ?_ (StepsFrom.cons (k := 4) ?_ (StepsFrom.cons (k := 5) ?_ (StepsFrom.cons (k := 6) ?_ (StepsFrom.cons (k := 7) ?_ (StepsFrom.cons (k := 8) ?_ (StepsFrom.cons (k := 9) ?_ (StepsFrom.cons (k := 10) ?_ (StepsFrom.cons (k := 11) ?_ (StepsFrom.cons (k := 12) ?_ (StepsFrom.cons (k := 13) ?_ (StepsFrom.cons (k := 14) ?_ (StepsFrom.cons (k := 15) ?_ (StepsFrom.cons (k := 16) ?_ (StepsFrom.cons (k := 17) ?_ (StepsFrom.cons (k := 18) ?_ (StepsFrom.cons (k := 19) ?_ (StepsFrom.cons (k := 20) ?_ (StepsFrom.cons (k := 21) ?_ (StepsFrom.cons (k := 22) ?_ (StepsFrom.nil)))))))))))))))))))))))
        · -- 0: val
          rintro bb aa wx hn hd ⟨v12, v42, v43, v44, v45, v46, v47, v48, v49, v50, v51, v52, v53, v54, v55, v56, v57, v58, v59, v60, v61, v62, v63, rfl, G, f0, f1, f2, f3, f4, f5, f6, f7, f8, f9, f10, f11, f12, f13, f14, f15, f16, f17, f18, f19, f20, f21, f22, x0, x1, x2⟩ K hK
          obtain rfl := x1.resolve_left (fun h => hn (x2 h))
          have HK := Lib.hid hK
          clear hK
          go_simp
          exact HK.out _ _ ⟨_, _, _, _, _, _, _, _, _, _, _, _, _, _, _, _, _, _, _, _, _, _, _, rfl, G, fun _ => rfl, up (by decide) f1, up (by decide) f2, up (by decide) f3, up (by decide) f4, up (by decide) f5, up (by decide) f6, up (by decide) f7, up (by decide) f8, up (by decide) f9, up (by decide) f10, up (by decide) f11, up (by decide) f12, up (by decide) f13, up (by decide) f14, up (by decide) f15, up (by decide) f16, up (by decide) f17, up (by decide) f18, up (by decide) f19, fun h => (f20 (down (by decide) h)).keep (Keep.refl _) Or.inr, fun h => (f21 (down (by decide) h)).keep (Keep.refl _), fun h => ⟨Or.inr (f22 (down (by decide) h)).1, (f22 (down (by decide) h)).2⟩, x0.imp Or.inr (fun h => ownsKeep h (Keep.refl _)), x1.imp Or.inr id, fun _ => Or.inl rfl⟩
        · -- 1: val
          rintro bb aa wx hn hd ⟨v12, v42, v43, v44, v45, v46, v47, v48, v49, v50, v51, v52, v53, v54, v55, v56, v57, v58, v59, v60, v61, v62, v63, rfl, G, f0, f1, f2, f3, f4, f5, f6, f7, f8, f9, f10, f11, f12, f13, f14, f15, f16, f17, f18, f19, f20, f21, f22, x0, x1, x2⟩ K hK
          have HK := Lib.hid hK
          clear hK
          go_simp
          exact HK.out _ _ ⟨_, _, _, _, _, _, _, _, _, _, _, _, _, _, _, _, _, _, _, _, _, _, _, rfl, G, up (by decide) f0, fun _ => rfl, up (by decide) f2, up (by decide) f3, up (by decide) f4, up (by decide) f5, up (by decide) f6, up (by decide) f7, up (by decide) f8, up (by decide) f9, up (by decide) f10, up (by decide) f11, up (by decide) f12, up (by decide) f13, up (by decide) f14, up (by decide) f15, up (by decide) f16, up (by decide) f17, up (by decide) f18, up (by decide) f19, fun h => (f20 (down (by decide) h)).keep (Keep.refl _) Or.inr, fun h => (f21 (down (by decide) h)).keep (Keep.refl _), fun h => ⟨Or.inr (f22 (down (by decide) h)).1, (f22 (down (by decide) h)).2⟩, x0.imp Or.inr (fun h => ownsKeep h (Keep.refl _)), x1.imp Or.inr id, fun h => Or.inr (x2 (down (by decide) h))⟩
        · -- 2: val
          rintro bb aa wx hn hd ⟨v12, v42, v43, v44, v45, v46, v47, v48, v49, v50, v51, v52, v53, v54, v55, v56, v57, v58, v59, v60, v61, v62, v63, rfl, G, f0, f1, f2, f3, f4, f5, f6, f7, f8, f9, f10, f11, f12, f13, f14, f15, f16, f17, f18, f19, f20, f21, f22, x0, x1, x2⟩ K hK
          have HK := Lib.hid hK
          clear hK
          go_simp
          exact HK.out _ _ ⟨_, _, _, _, _, _, _, _, _, _, _, _, _, _, _, _, _, _, _, _, _, _, _, rfl, G, up (by decide) f0, up (by decide) f1, fun _ => rfl, up (by decide) f3, up (by decide) f4, up (by decide) f5, up (by decide) f6, up (by decide) f7, up (by decide) f8, up (by decide) f9, up (by decide) f10, up (by decide) f11, up (by decide) f12, up (by decide) f13, up (by decide) f14, up (by decide) f15, up (by decide) f16, up (by decide) f17, up (by decide) f18, up (by decide) f19, fun h => (f20 (down (by decide) h)).keep (Keep.refl _) Or.inr, fun h => (f21 (down (by decide) h)).keep (Keep.refl _), fun h => ⟨Or.inr (f22 (down (by decide) h)).1, (f22 (down (by decide) h)).2⟩, x0.imp Or.inr (fun h => ownsKeep h (Keep.refl _)), x1.imp Or.inr id, fun h => Or.inr (x2 (down (by decide) h))⟩
        · -- 3: val
          rintro bb aa wx hn hd ⟨v12, v42, v43, v44, v45, v46, v47, v48, v49, v50, v51, v52, v53, v54, v55, v56, v57, v58, v59, v60, v61, v62, v63, rfl, G, f0, f1, f2, f3, f4, f5, f6, f7, f8, f9, f10, f11, f12, f13, f14, f15, f16, f17, f18, f19, f20, f21, f22, x0, x1, x2⟩ K hK
          have b1 : bb 1 := hd ⟨1, .data⟩ (by simp) (by rfl)
          obtain rfl := f1 b1
          have b2 : bb 2 := hd ⟨2, .data⟩ (by simp) (by rfl)
          obtain rfl := f2 b2
          have HK := Lib.hid hK
          clear hK
          go_simp
          exact HK.out _ _ ⟨_, _, _, _, _, _, _, _, _, _, _, _, _, _, _, _, _, _, _, _, _, _, _, rfl, G, up (by decide) f0, fun _ => rfl, fun _ => rfl, fun _ => rfl, up (by decide) f4, up (by decide) f5, up (by decide) f6, up (by decide) f7, up (by decide) f8, up (by decide) f9, up (by decide) f10, up (by decide) f11, up (by decide) f12, up (by decide) f13, up (by decide) f14, up (by decide) f15, up (by decide) f16, up (by decide) f17, up (by decide) f18, up (by decide) f19, fun h => (f20 (down (by decide) h)).keep (Keep.refl _) Or.inr, fun h => (f21 (down (by decide) h)).keep (Keep.refl _), fun h => ⟨Or.inr (f22 (down (by decide) h)).1, (f22 (down (by decide) h)).2⟩, x0.imp Or.inr (fun h => ownsKeep h (Keep.refl _)), x1.imp Or.inr id, fun h => Or.inr (x2 (down (by decide) h))⟩
        · -- 4: val
          rintro bb aa wx hn hd ⟨v12, v42, v43, v44, v45, v46, v47, v48, v49, v50, v51, v52, v53, v54, v55, v56, v57, v58, v59, v60, v61, v62, v63, rfl, G, f0, f1, f2, f3, f4, f5, f6, f7, f8, f9, f10, f11, f12, f13, f14, f15, f16, f17, f18, f19, f20, f21, f22, x0, x1, x2⟩ K hK
          have b3 : bb 3 := hd ⟨3, .data⟩ (by simp) (by rfl)
          obtain rfl := f3 b3
          have HK := Lib.hid hK
          clear hK
          go_simp
          exact HK.out _ _ ⟨_, _, _, _, _, _, _, _, _, _, _, _, _, _, _, _, _, _, _, _, _, _, _, rfl, G, up (by decide) f0, up (by decide) f1, up (by decide) f2, fun _ => rfl, fun _ => rfl, up (by decide) f5, up (by decide) f6, up (by decide) f7, up (by decide) f8, up (by decide) f9, up (by decide) f10, up (by decide) f11, up (by decide) f12, up (by decide) f13, up (by decide) f14, up (by decide) f15, up (by decide) f16, up (by decide) f17, up (by decide) f18, up (by decide) f19, fun h => (f20 (down (by decide) h)).keep (Keep.refl _) Or.inr, fun h => (f21 (down (by decide) h)).keep (Keep.refl _), fun h => ⟨Or.inr (f22 (down (by decide) h)).1, (f22 (down (by decide) h)).2⟩, x0.imp Or.inr (fun h => ownsKeep h (Keep.refl _)), x1.imp Or.inr id, fun h => Or.inr (x2 (down (by decide) h))⟩
        · -- 5: val
          rintro bb aa wx hn hd ⟨v12, v42, v43, v44, v45, v46, v47, v48, v49, v50, v51, v52, v53, v54, v55, v56, v57, v58, v59, v60, v61, v62, v63, rfl, G, f0, f1, f2, f3, f4, f5, f6, f7, f8, f9, f10, f11, f12, f13, f14, f15, f16, f17, f18, f19, f20, f21, f22, x0, x1, x2⟩ K hK
          have b4 : bb 4 := hd ⟨4, .data⟩ (by simp) (by rfl)
          obtain rfl := f4 b4
          have k0 := G.some c0
          have HK := Lib.hid hK
          clear hK
          go_simp
          exact HK.out _ _ ⟨_, _, _, _, _, _, _, _, _, _, _, _, _, _, _, _, _, _, _, _, _, _, _, rfl, G, up (by decide) f0, up (by decide) f1, up (by decide) f2, up (by decide) f3, fun _ => rfl, fun _ => rfl, up (by decide) f6, up (by decide) f7, up (by decide) f8, up (by decide) f9, up (by decide) f10, up (by decide) f11, up (by decide) f12, up (by decide) f13, up (by decide) f14, up (by decide) f15, up (by decide) f16, up (by decide) f17, up (by decide) f18, up (by decide) f19, fun h => (f20 (down (by decide) h)).keep (Keep.refl _) Or.inr, fun h => (f21 (down (by decide) h)).keep (Keep.refl _), fun h => ⟨Or.inr (f22 (down (by decide) h)).1, (f22 (down (by decide) h)).2⟩, x0.imp Or.inr (fun h => ownsKeep h (Keep.refl _)), x1.imp Or.inr id, fun h => Or.inr (x2 (down (by decide) h))⟩
        · -- 6: fact
          rintro bb aa wx hn hd ⟨v12, v42, v43, v44, v45, v46, v47, v48, v49, v50, v51, v52, v53, v54, v55, v56, v57, v58, v59, v60, v61, v62, v63, rfl, G, f0, f1, f2, f3, f4, f5, f6, f7, f8, f9, f10, f11, f12, f13, f14, f15, f16, f17, f18, f19, f20, f21, f22, x0, x1, x2⟩ K hK
          have b5 : bb 5 := hd ⟨5, .data⟩ (by simp) (by rfl)
          obtain rfl := f5 b5
          have HK := Lib.hid hK
          clear hK
          go_simp
          exact HK.out _ _ ⟨_, _, _, _, _, _, _, _, _, _, _, _, _, _, _, _, _, _, _, _, _, _, _, rfl, G, up (by decide) f0, up (by decide) f1, up (by decide) f2, up (by decide) f3, up (by decide) f4, fun _ => rfl, fun _ => ⟨_, rfl⟩, up (by decide) f7, up (by decide) f8, up (by decide) f9, up (by decide) f10, up (by decide) f11, up (by decide) f12, up (by decide) f13, up (by decide) f14, up (by decide) f15, up (by decide) f16, up (by decide) f17, up (by decide) f18, up (by decide) f19, fun h => (f20 (down (by decide) h)).keep (Keep.refl _) Or.inr, fun h => (f21 (down (by decide) h)).keep (Keep.refl _), fun h => ⟨Or.inr (f22 (down (by decide) h)).1, (f22 (down (by decide) h)).2⟩, x0.imp Or.inr (fun h => ownsKeep h (Keep.refl _)), x1.imp Or.inr id, fun h => Or.inr (x2 (down (by decide) h))⟩
        · -- 7: fact
          rintro bb aa wx hn hd ⟨v12, v42, v43, v44, v45, v46, v47, v48, v49, v50, v51, v52, v53, v54, v55, v56, v57, v58, v59, v60, v61, v62, v63, rfl, G, f0, f1, f2, f3, f4, f5, f6, f7, f8, f9, f10, f11, f12, f13, f14, f15, f16, f17, f18, f19, f20, f21, f22, x0, x1, x2⟩ K hK
          have b6 : bb 6 := hd ⟨6, .data⟩ (by simp) (by rfl)
          obtain ⟨z6, rfl⟩ := (f6 b6)
          have HK := Lib.hid hK
          clear hK
          go_simp
          exact HK.out _ _ ⟨_, _, _, _, _, _, _, _, _, _, _, _, _, _, _, _, _, _, _, _, _, _, _, rfl, G, up (by decide) f0, up (by decide) f1, up (by decide) f2, up (by decide) f3, up (by decide) f4, up (by decide) f5, fun _ => ⟨_, rfl⟩, fun _ => ⟨_, rfl⟩, up (by decide) f8, up (by decide) f9, up (by decide) f10, up (by decide) f11, up (by decide) f12, up (by decide) f13, up (by decide) f14, up (by decide) f15, up (by decide) f16, up (by decide) f17, up (by decide) f18, up (by decide) f19, fun h => (f20 (down (by decide) h)).keep (Keep.refl _) Or.inr, fun h => (f21 (down (by decide) h)).keep (Keep.refl _), fun h => ⟨Or.inr (f22 (down (by decide) h)).1, (f22 (down (by decide) h)).2⟩, x0.imp Or.inr (fun h => ownsKeep h (Keep.refl _)), x1.imp Or.inr id, fun h => Or.inr (x2 (down (by decide) h))⟩
        · -- 8: fact
          rintro bb aa wx hn hd ⟨v12, v42, v43, v44, v45, v46, v47, v48, v49, v50, v51, v52, v53, v54, v55, v56, v57, v58, v59, v60, v61, v62, v63, rfl, G, f0, f1, f2, f3, f4, f5, f6, f7, f8, f9, f10, f11, f12, f13, f14, f15, f16, f17, f18, f19, f20, f21, f22, x0, x1, x2⟩ K hK
          have b7 : bb 7 := hd ⟨7, .data⟩ (by simp) (by rfl)
          obtain ⟨z7, rfl⟩ := (f7 b7)
          have HK := Lib.hid hK
          clear hK
          go_simp
          exact HK.out _ _ ⟨_, _, _, _, _, _, _, _, _, _, _, _, _, _, _, _, _, _, _, _, _, _, _, rfl, G, up (by decide) f0, up (by decide) f1, up (by decide) f2, up (by decide) f3, up (by decide) f4, up (by decide) f5, up (by decide) f6, fun _ => ⟨_, rfl⟩, fun _ => ⟨_, rfl⟩, up (by decide) f9, up (by decide) f10, up (by decide) f11, up (by decide) f12, up (by decide) f13, up (by decide) f14, up (by decide) f15, up (by decide) f16, up (by decide) f17, up (by decide) f18, up (by decide) f19, fun h => (f20 (down (by decide) h)).keep (Keep.refl _) Or.inr, fun h => (f21 (down (by decide) h)).keep (Keep.refl _), fun h => ⟨Or.inr (f22 (down (by decide) h)).1, (f22 (down (by decide) h)).2⟩, x0.imp Or.inr (fun h => ownsKeep h (Keep.refl _)), x1.imp Or.inr id, fun h => Or.inr (x2 (down (by decide) h))⟩
        · -- 9: fact
          rintro bb aa wx hn hd ⟨v12, v42, v43, v44, v45, v46, v47, v48, v49, v50, v51, v52, v53, v54, v55, v56, v57, v58, v59, v60, v61, v62, v63, rfl, G, f0, f1, f2, f3, f4, f5, f6, f7, f8, f9, f10, f11, f12, f13, f14, f15, f16, f17, f18, f19, f20, f21, f22, x0, x1, x2⟩ K hK
          have b8 : bb 8 := hd ⟨8, .data⟩ (by simp) (by rfl)
          obtain ⟨z8, rfl⟩ := (f8 b8)
          have HK := Lib.hid hK
          clear hK
          go_simp
          exact HK.out _ _ ⟨_, _, _, _, _, _, _, _, _, _, _, _, _, _, _, _, _, _, _, _, _, _, _, rfl, G, up (by decide) f0, up (by decide) f1, up (by decide) f2, up (by decide) f3, up (by decide) f4, up (by decide) f5, up (by decide) f6, up (by decide) f7, fun _ => ⟨_, rfl⟩, fun _ => ⟨_, rfl⟩, up (by decide) f10, up (by decide) f11, up (by decide) f12, up (by decide) f13, up (by decide) f14, up (by decide) f15, up (by decide) f16, up (by decide) f17, up (by decide) f18, up (by decide) f19, fun h => (f20 (down (by decide) h)).keep (Keep.refl _) Or.inr, fun h => (f21 (down (by decide) h)).keep (Keep.refl _), fun h => ⟨Or.inr (f22 (down (by decide) h)).1, (f22 (down (by decide) h)).2⟩, x0.imp Or.inr (fun h => ownsKeep h (Keep.refl _)), x1.imp Or.inr id, fun h => Or.inr (x2 (down (by decide) h))⟩
        · -- 10: val
          rintro bb aa wx hn hd ⟨v12, v42, v43, v44, v45, v46, v47, v48, v49, v50, v51, v52, v53, v54, v55, v56, v57, v58, v59, v60, v61, v62, v63, rfl, G, f0, f1, f2, f3, f4, f5, f6, f7, f8, f9, f10, f11, f12, f13, f14, f15, f16, f17, f18, f19, f20, f21, f22, x0, x1, x2⟩ K hK
          have HK := Lib.hid hK
          clear hK
          go_simp
          exact HK.out _ _ ⟨_, _, _, _, _, _, _, _, _, _, _, _, _, _, _, _, _, _, _, _, _, _, _, rfl, G, up (by decide) f0, up (by decide) f1, up (by decide) f2, up (by decide) f3, up (by decide) f4, up (by decide) f5, up (by decide) f6, up (by decide) f7, up (by decide) f8, up (by decide) f9, fun _ => rfl, up (by decide) f11, up (by decide) f12, up (by decide) f13, up (by decide) f14, up (by decide) f15, up (by decide) f16, up (by decide) f17, up (by decide) f18, up (by decide) f19, fun h => (f20 (down (by decide) h)).keep (Keep.refl _) Or.inr, fun h => (f21 (down (by decide) h)).keep (Keep.refl _), fun h => ⟨Or.inr (f22 (down (by decide) h)).1, (f22 (down (by decide) h)).2⟩, x0.imp Or.inr (fun h => ownsKeep h (Keep.refl _)), x1.imp Or.inr id, fun h => Or.inr (x2 (down (by decide) h))⟩
        · -- 11: val
          rintro bb aa wx hn hd ⟨v12, v42, v43, v44, v45, v46, v47, v48, v49, v50, v51, v52, v53, v54, v55, v56, v57, v58, v59, v60, v61, v62, v63, rfl, G, f0, f1, f2, f3, f4, f5, f6, f7, f8, f9, f10, f11, f12, f13, f14, f15, f16, f17, f18, f19, f20, f21, f22, x0, x1, x2⟩ K hK
          have HK := Lib.hid hK
          clear hK
          go_simp
          exact HK.out _ _ ⟨_, _, _, _, _, _, _, _, _, _, _, _, _, _, _, _, _, _, _, _, _, _, _, rfl, G, up (by decide) f0, up (by decide) f1, up (by decide) f2, up (by decide) f3, up (by decide) f4, up (by decide) f5, up (by decide) f6, up (by decide) f7, up (by decide) f8, up (by decide) f9, up (by decide) f10, fun _ => rfl, up (by decide) f12, up (by decide) f13, up (by decide) f14, up (by decide) f15, up (by decide) f16, up (by decide) f17, up (by decide) f18, up (by decide) f19, fun h => (f20 (down (by decide) h)).keep (Keep.refl _) Or.inr, fun h => (f21 (down (by decide) h)).keep (Keep.refl _), fun h => ⟨Or.inr (f22 (down (by decide) h)).1, (f22 (down (by decide) h)).2⟩, x0.imp Or.inr (fun h => ownsKeep h (Keep.refl _)), x1.imp Or.inr id, fun h => Or.inr (x2 (down (by decide) h))⟩
        · -- 12: val
          rintro bb aa wx hn hd ⟨v12, v42, v43, v44, v45, v46, v47, v48, v49, v50, v51, v52, v53, v54, v55, v56, v57, v58, v59, v60, v61, v62, v63, rfl, G, f0, f1, f2, f3, f4, f5, f6, f7, f8, f9, f10, f11, f12, f13, f14, f15, f16, f17, f18, f19, f20, f21, f22, x0, x1, x2⟩ K hK
          have b10 : bb 10 := hd ⟨10, .data⟩ (by simp) (by rfl)
          obtain rfl := f10 b10
          have b11 : bb 11 := hd ⟨11, .data⟩ (by simp) (by rfl)
          obtain rfl := f11 b11
          have HK := Lib.hid hK
          clear hK
          go_simp
          exact HK.out _ _ ⟨_, _, _, _, _, _, _, _, _, _, _, _, _, _, _, _, _, _, _, _, _, _, _, rfl, G, up (by decide) f0, up (by decide) f1, up (by decide) f2, up (by decide) f3, up (by decide) f4, up (by decide) f5, up (by decide) f6, up (by decide) f7, up (by decide) f8, up (by decide) f9, fun _ => rfl, fun _ => rfl, fun _ => rfl, up (by decide) f13, up (by decide) f14, up (by decide) f15, up (by decide) f16, up (by decide) f17, up (by decide) f18, up (by decide) f19, fun h => (f20 (down (by decide) h)).keep (Keep.refl _) Or.inr, fun h => (f21 (down (by decide) h)).keep (Keep.refl _), fun h => ⟨Or.inr (f22 (down (by decide) h)).1, (f22 (down (by decide) h)).2⟩, x0.imp Or.inr (fun h => ownsKeep h (Keep.refl _)), x1.imp Or.inr id, fun h => Or.inr (x2 (down (by decide) h))⟩
        · -- 13: val
          rintro bb aa wx hn hd ⟨v12, v42, v43, v44, v45, v46, v47, v48, v49, v50, v51, v52, v53, v54, v55, v56, v57, v58, v59, v60, v61, v62, v63, rfl, G, f0, f1, f2, f3, f4, f5, f6, f7, f8, f9, f10, f11, f12, f13, f14, f15, f16, f17, f18, f19, f20, f21, f22, x0, x1, x2⟩ K hK
          have b12 : bb 12 := hd ⟨12, .data⟩ (by simp) (by rfl)
          obtain rfl := f12 b12
          have HK := Lib.hid hK
          clear hK
          go_simp
          exact HK.out _ _ ⟨_, _, _, _, _, _, _, _, _, _, _, _, _, _, _, _, _, _, _, _, _, _, _, rfl, G, up (by decide) f0, up (by decide) f1, up (by decide) f2, up (by decide) f3, up (by decide) f4, up (by decide) f5, up (by decide) f6, up (by decide) f7, up (by decide) f8, up (by decide) f9, up (by decide) f10, up (by decide) f11, fun _ => rfl, fun _ => rfl, up (by decide) f14, up (by decide) f15, up (by decide) f16, up (by decide) f17, up (by decide) f18, up (by decide) f19, fun h => (f20 (down (by decide) h)).keep (Keep.refl _) Or.inr, fun h => (f21 (down (by decide) h)).keep (Keep.refl _), fun h => ⟨Or.inr (f22 (down (by decide) h)).1, (f22 (down (by decide) h)).2⟩, x0.imp Or.inr (fun h => ownsKeep h (Keep.refl _)), x1.imp Or.inr id, fun h => Or.inr (x2 (down (by decide) h))⟩
        · -- 14: val
          rintro bb aa wx hn hd ⟨v12, v42, v43, v44, v45, v46, v47, v48, v49, v50, v51, v52, v53, v54, v55, v56, v57, v58, v59, v60, v61, v62, v63, rfl, G, f0, f1, f2, f3, f4, f5, f6, f7, f8, f9, f10, f11, f12, f13, f14, f15, f16, f17, f18, f19, f20, f21, f22, x0, x1, x2⟩ K hK
          have b13 : bb 13 := hd ⟨13, .data⟩ (by simp) (by rfl)
          obtain rfl := f13 b13
          have k0 := G.some c1
          have HK := Lib.hid hK
          clear hK
          go_simp
          exact HK.out _ _ ⟨_, _, _, _, _, _, _, _, _, _, _, _, _, _, _, _, _, _, _, _, _, _, _, rfl, G, up (by decide) f0, up (by decide) f1, up (by decide) f2, up (by decide) f3, up (by decide) f4, up (by decide) f5, up (by decide) f6, up (by decide) f7, up (by decide) f8, up (by decide) f9, up (by decide) f10, up (by decide) f11, up (by decide) f12, fun _ => rfl, fun _ => rfl, up (by decide) f15, up (by decide) f16, up (by decide) f17, up (by decide) f18, up (by decide) f19, fun h => (f20 (down (by decide) h)).keep (Keep.refl _) Or.inr, fun h => (f21 (down (by decide) h)).keep (Keep.refl _), fun h => ⟨Or.inr (f22 (down (by decide) h)).1, (f22 (down (by decide) h)).2⟩, x0.imp Or.inr (fun h => ownsKeep h (Keep.refl _)), x1.imp Or.inr id, fun h => Or.inr (x2 (down (by decide) h))⟩
        · -- 15: fact
          rintro bb aa wx hn hd ⟨v12, v42, v43, v44, v45, v46, v47, v48, v49, v50, v51, v52, v53, v54, v55, v56, v57, v58, v59, v60, v61, v62, v63, rfl, G, f0, f1, f2, f3, f4, f5, f6, f7, f8, f9, f10, f11, f12, f13, f14, f15, f16, f17, f18, f19, f20, f21, f22, x0, x1, x2⟩ K hK
          have b14 : bb 14 := hd ⟨14, .data⟩ (by simp) (by rfl)
          obtain rfl := f14 b14
          have HK := Lib.hid hK
          clear hK
          go_simp
          exact HK.out _ _ ⟨_, _, _, _, _, _, _, _, _, _, _, _, _, _, _, _, _, _, _, _, _, _, _, rfl, G, up (by decide) f0, up (by decide) f1, up (by decide) f2, up (by decide) f3, up (by decide) f4, up (by decide) f5, up (by decide) f6, up (by decide) f7, up (by decide) f8, up (by decide) f9, up (by decide) f10, up (by decide) f11, up (by decide) f12, up (by decide) f13, fun _ => rfl, fun _ => ⟨_, rfl⟩, up (by decide) f16, up (by decide) f17, up (by decide) f18, up (by decide) f19, fun h => (f20 (down (by decide) h)).keep (Keep.refl _) Or.inr, fun h => (f21 (down (by decide) h)).keep (Keep.refl _), fun h => ⟨Or.inr (f22 (down (by decide) h)).1, (f22 (down (by decide) h)).2⟩, x0.imp Or.inr (fun h => ownsKeep h (Keep.refl _)), x1.imp Or.inr id, fun h => Or.inr (x2 (down (by decide) h))⟩
        · -- 16: fact
          rintro bb aa wx hn hd ⟨v12, v42, v43, v44, v45, v46, v47, v48, v49, v50, v51, v52, v53, v54, v55, v56, v57, v58, v59, v60, v61, v62, v63, rfl, G, f0, f1, f2, f3, f4, f5, f6, f7, f8, f9, f10, f11, f12, f13, f14, f15, f16, f17, f18, f19, f20, f21, f22, x0, x1, x2⟩ K hK
          have b15 : bb 15 := hd ⟨15, .data⟩ (by simp) (by rfl)
          obtain ⟨z15, rfl⟩ := (f15 b15)
          have HK := Lib.hid hK
          clear hK
          go_simp
          exact HK.out _ _ ⟨_, _, _, _, _, _, _, _, _, _, _, _, _, _, _, _, _, _, _, _, _, _, _, rfl, G, up (by decide) f0, up (by decide) f1, up (by decide) f2, up (by decide) f3, up (by decide) f4, up (by decide) f5, up (by decide) f6, up (by decide) f7, up (by decide) f8, up (by decide) f9, up (by decide) f10, up (by decide) f11, up (by decide) f12, up (by decide) f13, up (by decide) f14, fun _ => ⟨_, rfl⟩, fun _ => ⟨_, rfl⟩, up (by decide) f17, up (by decide) f18, up (by decide) f19, fun h => (f20 (down (by decide) h)).keep (Keep.refl _) Or.inr, fun h => (f21 (down (by decide) h)).keep (Keep.refl _), fun h => ⟨Or.inr (f22 (down (by decide) h)).1, (f22 (down (by decide) h)).2⟩, x0.imp Or.inr (fun h => ownsKeep h (Keep.refl _)), x1.imp Or.inr id, fun h => Or.inr (x2 (down (by decide) h))⟩
        · -- 17: fact
          rintro bb aa wx hn hd ⟨v12, v42, v43, v44, v45, v46, v47, v48, v49, v50, v51, v52, v53, v54, v55, v56, v57, v58, v59, v60, v61, v62, v63, rfl, G, f0, f1, f2, f3, f4, f5, f6, f7, f8, f9, f10, f11, f12, f13, f14, f15, f16, f17, f18, f19, f20, f21, f22, x0, x1, x2⟩ K hK
          have b16 : bb 16 := hd ⟨16, .data⟩ (by simp) (by rfl)
          obtain ⟨z16, rfl⟩ := (f16 b16)
          have HK := Lib.hid hK
          clear hK
          go_simp
          exact HK.out _ _ ⟨_, _, _, _, _, _, _, _, _, _, _, _, _, _, _, _, _, _, _, _, _, _, _, rfl, G, up (by decide) f0, up (by decide) f1, up (by decide) f2, up (by decide) f3, up (by decide) f4, up (by decide) f5, up (by decide) f6, up (by decide) f7, up (by decide) f8, up (by decide) f9, up (by decide) f10, up (by decide) f11, up (by decide) f12, up (by decide) f13, up (by decide) f14, up (by decide) f15, fun _ => ⟨_, rfl⟩, fun _ => ⟨_, rfl⟩, up (by decide) f18, up (by decide) f19, fun h => (f20 (down (by decide) h)).keep (Keep.refl _) Or.inr, fun h => (f21 (down (by decide) h)).keep (Keep.refl _), fun h => ⟨Or.inr (f22 (down (by decide) h)).1, (f22 (down (by decide) h)).2⟩, x0.imp Or.inr (fun h => ownsKeep h (Keep.refl _)), x1.imp Or.inr id, fun h => Or.inr (x2 (down (by decide) h))⟩
        · -- 18: fact
          rintro bb aa wx hn hd ⟨v12, v42, v43, v44, v45, v46, v47, v48, v49, v50, v51, v52, v53, v54, v55, v56, v57, v58, v59, v60, v61, v62, v63, rfl, G, f0, f1, f2, f3, f4, f5, f6, f7, f8, f9, f10, f11, f12, f13, f14, f15, f16, f17, f18, f19, f20, f21, f22, x0, x1, x2⟩ K hK
          have b17 : bb 17 := hd ⟨17, .data⟩ (by simp) (by rfl)
          obtain ⟨z17, rfl⟩ := (f17 b17)
          have HK := Lib.hid hK
          clear hK
          go_simp
          exact HK.out _ _ ⟨_, _, _, _, _, _, _, _, _, _, _, _, _, _, _, _, _, _, _, _, _, _, _, rfl, G, up (by decide) f0, up (by decide) f1, up (by decide) f2, up (by decide) f3, up (by decide) f4, up (by decide) f5, up (by decide) f6, up (by decide) f7, up (by decide) f8, up (by decide) f9, up (by decide) f10, up (by decide) f11, up (by decide) f12, up (by decide) f13, up (by decide) f14, up (by decide) f15, up (by decide) f16, fun _ => ⟨_, rfl⟩, fun _ => ⟨_, rfl⟩, up (by decide) f19, fun h => (f20 (down (by decide) h)).keep (Keep.refl _) Or.inr, fun h => (f21 (down (by decide) h)).keep (Keep.refl _), fun h => ⟨Or.inr (f22 (down (by decide) h)).1, (f22 (down (by decide) h)).2⟩, x0.imp Or.inr (fun h => ownsKeep h (Keep.refl _)), x1.imp Or.inr id, fun h => Or.inr (x2 (down (by decide) h))⟩
        · -- 19: fact
          rintro bb aa wx hn hd ⟨v12, v42, v43, v44, v45, v46, v47, v48, v49, v50, v51, v52, v53, v54, v55, v56, v57, v58, v59, v60, v61, v62, v63, rfl, G, f0, f1, f2, f3, f4, f5, f6, f7, f8, f9, f10, f11, f12, f13, f14, f15, f16, f17, f18, f19, f20, f21, f22, x0, x1, x2⟩ K hK
          have b9 : bb 9 := hd ⟨9, .data⟩ (by simp) (by rfl)
          obtain ⟨z9, rfl⟩ := (f9 b9)
          have b18 : bb 18 := hd ⟨18, .data⟩ (by simp) (by rfl)
          obtain ⟨z18, rfl⟩ := (f18 b18)
          have HK := Lib.hid hK
          clear hK
          go_simp
          exact HK.out _ _ ⟨_, _, _, _, _, _, _, _, _, _, _, _, _, _, _, _, _, _, _, _, _, _, _, rfl, G, up (by decide) f0, up (by decide) f1, up (by decide) f2, up (by decide) f3, up (by decide) f4, up (by decide) f5, up (by decide) f6, up (by decide) f7, up (by decide) f8, fun _ => ⟨_, rfl⟩, up (by decide) f10, up (by decide) f11, up (by decide) f12, up (by decide) f13, up (by decide) f14, up (by decide) f15, up (by decide) f16, up (by decide) f17, fun _ => ⟨_, rfl⟩, fun _ => ⟨_, _, rfl⟩, fun h => (f20 (down (by decide) h)).keep (Keep.refl _) Or.inr, fun h => (f21 (down (by decide) h)).keep (Keep.refl _), fun h => ⟨Or.inr (f22 (down (by decide) h)).1, (f22 (down (by decide) h)).2⟩, x0.imp Or.inr (fun h => ownsKeep h (Keep.refl _)), x1.imp Or.inr id, fun h => Or.inr (x2 (down (by decide) h))⟩
        · -- 20: fact
          rintro bb aa wx hn hd ⟨v12, v42, v43, v44, v45, v46, v47, v48, v49, v50, v51, v52, v53, v54, v55, v56, v57, v58, v59, v60, v61, v62, v63, rfl, G, f0, f1, f2, f3, f4, f5, f6, f7, f8, f9, f10, f11, f12, f13, f14, f15, f16, f17, f18, f19, f20, f21, f22, x0, x1, x2⟩ K hK
          have b19 : bb 19 := hd ⟨19, .data⟩ (by simp) (by rfl)
          obtain ⟨x19, y19, rfl⟩ := (f19 b19)
          have HK := Lib.hid hK
          clear hK
          go_simp
          exact HK.out _ _ ⟨_, _, _, _, _, _, _, _, _, _, _, _, _, _, _, _, _, _, _, _, _, _, _, rfl, (G.trans (Keep.alloc (Keep.refl _) _)), up (by decide) f0, up (by decide) f1, up (by decide) f2, up (by decide) f3, up (by decide) f4, up (by decide) f5, up (by decide) f6, up (by decide) f7, up (by decide) f8, up (by decide) f9, up (by decide) f10, up (by decide) f11, up (by decide) f12, up (by decide) f13, up (by decide) f14, up (by decide) f15, up (by decide) f16, up (by decide) f17, up (by decide) f18, fun _ => ⟨_, _, rfl⟩, fun _ => Or.inr ⟨_, x19, y19, rfl, by simp [go_sem], by simp [go_sem]⟩, fun h => (f21 (down (by decide) h)).keep (Keep.alloc (Keep.refl _) _), fun h => ⟨Or.inr (f22 (down (by decide) h)).1, (f22 (down (by decide) h)).2⟩, x0.imp Or.inr (fun h => ownsKeep h (Keep.alloc (Keep.refl _) _)), x1.imp Or.inr id, fun h => Or.inr (x2 (down (by decide) h))⟩
        · -- 21: fact
          rintro bb aa wx hn hd ⟨v12, v42, v43, v44, v45, v46, v47, v48, v49, v50, v51, v52, v53, v54, v55, v56, v57, v58, v59, v60, v61, v62, v63, rfl, G, f0, f1, f2, f3, f4, f5, f6, f7, f8, f9, f10, f11, f12, f13, f14, f15, f16, f17, f18, f19, f20, f21, f22, x0, x1, x2⟩ K hK
          have b0 : bb 0 := hd ⟨0, .data⟩ (by simp) (by rfl)
          obtain rfl := f0 b0
          have b20 : bb 20 := hd ⟨20, .data⟩ (by simp) (by rfl)
          obtain ⟨Y1, px, py, rfl, hy0, hy3⟩ := (f20 b20).resolve_left hn
          have hown0 := x0.resolve_left hn
          have HK := Lib.hid hK
          clear hK
          refine step_append_lies _ rfl (.tmp 42) (.tmp 62) 28 rfl W1.heap.size 23 i0 (.agg #[.int .i64 0, .int .i64 0]) 2 16 Try.underlying28 hi hz0 hy1 hy2 rfl (by decide) _ _ _ rfl hown0 ⟨Y1, 0, none⟩ 1 1 [.int .i64 px, .int .i64 py] rfl rfl (cells_two hy0 hy3) (by intro u hu; simp at hu; rcases hu with rfl | rfl <;> rfl) (by omega) (by unfold maxLen; omega) (by omega) G.size _ rfl ?_
          intro g3 cap2 w1 hown hgrow _ _
          rw [show cellsL out ++ [.int .i64 px, .int .i64 py] = cellsL (out ++ [(px, py)]) by rw [cellsL_append]; rfl] at hown
          exact HK.out _ _ ⟨_, _, _, _, _, _, _, _, _, _, _, _, _, _, _, _, _, _, _, _, _, _, _, rfl, (Keep.byRow G hgrow (fun j hj => (hown0.lt j hj).1)), fun _ => rfl, up (by decide) f1, up (by decide) f2, up (by decide) f3, up (by decide) f4, up (by decide) f5, up (by decide) f6, up (by decide) f7, up (by decide) f8, up (by decide) f9, up (by decide) f10, up (by decide) f11, up (by decide) f12, up (by decide) f13, up (by decide) f14, up (by decide) f15, up (by decide) f16, up (by decide) f17, up (by decide) f18, up (by decide) f19, fun _ => Or.inl (Or.inl rfl), fun _ => ⟨_, _, _, rfl, hown⟩, fun h => absurd (f22 (down (by decide) h)).1 hn, Or.inl (Or.inl rfl), x1.imp Or.inr id, fun h => Or.inr (x2 (down (by decide) h))⟩
        · -- 22: val
          rintro bb aa wx hn hd ⟨v12, v42, v43, v44, v45, v46, v47, v48, v49, v50, v51, v52, v53, v54, v55, v56, v57, v58, v59, v60, v61, v62, v63, rfl, G, f0, f1, f2, f3, f4, f5, f6, f7, f8, f9, f10, f11, f12, f13, f14, f15, f16, f17, f18, f19, f20, f21, f22, x0, x1, x2⟩ K hK
          have b21 : bb 21 := hd ⟨21, .data⟩ (by simp) (by rfl)
          have bp0 : bb 0 := hd ⟨0, .phase⟩ (by simp) (by rfl)
          have HK := Lib.hid hK
          clear hK
          go_simp
          exact HK.out _ _ ⟨_, _, _, _, _, _, _, _, _, _, _, _, _, _, _, _, _, _, _, _, _, _, _, rfl, G, up (by decide) f0, up (by decide) f1, up (by decide) f2, up (by decide) f3, up (by decide) f4, up (by decide) f5, up (by decide) f6, up (by decide) f7, up (by decide) f8, up (by decide) f9, up (by decide) f10, up (by decide) f11, up (by decide) f12, up (by decide) f13, up (by decide) f14, up (by decide) f15, up (by decide) f16, up (by decide) f17, up (by decide) f18, up (by decide) f19, fun h => (f20 (down (by decide) h)).keep (Keep.refl _) Or.inr, fun h => (f21 (down (by decide) h)).keep (Keep.refl _), fun _ => ⟨Or.inr b21, rfl⟩, x0.imp Or.inr (fun h => ownsKeep h (Keep.refl _)), Or.inl (Or.inl rfl), fun _ => Or.inr bp0⟩
    · obtain rfl : m = k := by omega
      have RM := Lib.hid (rowAtOwns HR.out.1)
      have KW := Lib.hid HR.out.2
      have q0 := KW.out.some q0
      have q1 := KW.out.some q1
      have d0 := KW.out.some d0
      have d1 := KW.out.some d1
      have d2 := KW.out.some d2
      have d3 := KW.out.some d3
      have e0 := KW.out.some e0
      have e1 := KW.out.some e1
      have o0 := KW.out.some o0
      have o1 := KW.out.some o1
      have hb0 := cellBlock q0
      have hb1 := cellBlock o0
      have HD := Lib.hid (HD.out.keep KW.out)
      have RL := Lib.hid (RL.out.keep KW.out)
      have KK := Lib.hid (KK.out.trans KW.out)
      obtain ⟨am, nm, cm, rfl⟩ := RM.out.slice
      clear HEL HLN hlen HR hsl hsa
      have HONE := Lib.hid ((ownsOne wr [(X, Y)] 23 (by simp)).alloc (.cells #[.int .i64 b0, .int .i64 b1] 23))
      have HNEWS : Hid (∀ (j : Nat) u, [Value.int .i64 b0, Value.int .i64 b1][j]? = some u → ((wr.alloc (.cells #[.int .i64 X, .int .i64 Y] 23)).alloc (.cells #[.int .i64 b0, .int .i64 b1] 23)).cell? ((⟨wr.heap.size + 1, 0, none⟩ : Addr).add j) = some u) := Lib.hid (by have := cell_two_new (wr.alloc (.cells #[.int .i64 X, .int .i64 Y] 23)) (.int .i64 b0) (.int .i64 b1) 23; rwa [World.size_alloc] at this)
      go_wp2_with (at_builtin; refine wpList_append_lies _ rfl _ _ 28 rfl wr.heap.size 23 i0 (.agg #[.int .i64 0, .int .i64 0]) 2 16 Try.underlying28 hi hz0 hy1 hy2 rfl (by decide) (.slice (some ⟨wr.heap.size, 0, none⟩) 1 1) 1 (cellsL [(X, Y)]) rfl HONE.out ⟨wr.heap.size + 1, 0, none⟩ 1 1 [.int .i64 b0, .int .i64 b1] rfl rfl HNEWS.out (by intro u hu; simp at hu; rcases hu with rfl | rfl <;> rfl) (by omega) (by unfold maxLen; omega) (by omega) (by simp; omega) _ rfl ?_; intro g capg w2 hown hgrow _ _; have K2 := Lib.hid ((((Keep.refl wr).alloc (.cells #[.int .i64 X, .int .i64 Y] 23)).alloc (.cells #[.int .i64 b0, .int .i64 b1] 23)).byRow hgrow (fun j hj => by simp [Value.ownBlock] at hj; omega)); rw [show cellsL [(X, Y)] ++ [.int .i64 b0, .int .i64 b1] = cellsL [(X, Y), (b0, b1)] from rfl] at hown; have R3 := Lib.hid (rowAtOwns hown); clear hgrow hown HONE HNEWS)
      obtain ⟨BO, hBO⟩ : ∃ BO, wr.heap.size = BO := ⟨_, rfl⟩
      rw [hBO]
      clear hBO
      have q0 := K2.out.some q0
      have q1 := K2.out.some q1
      have d0 := K2.out.some d0
      have d1 := K2.out.some d1
      have d2 := K2.out.some d2
      have d3 := K2.out.some d3
      have e0 := K2.out.some e0
      have e1 := K2.out.some e1
      have o0 := K2.out.some o0
      have o1 := K2.out.some o1
      have HD := Lib.hid (HD.out.keep K2.out)
      have RL := Lib.hid (RL.out.keep K2.out)
      have RM := Lib.hid (RM.out.keep K2.out)
      have KK := Lib.hid (KK.out.trans K2.out)
      have HIX : Hid (∀ j : Nat, j < 3 → ∃ aa nn cc ll, (∀ w', (Instr.index 33 (.agg #[.slice a0 m cap, .slice am nm cm, .slice (some ⟨g, 0, none⟩) (1 + 1) capg]) (.int .i64 (j : Int))).run Try.prog w' = .ok (.slice aa nn cc) w') ∧ RowAt w2 (.slice aa nn cc) ll) := Lib.hid fun j hj => by
        obtain rfl | rfl | rfl : j = 0 ∨ j = 1 ∨ j = 2 := by omega
        · exact ⟨a0, m, cap, _, fun w' => by kernel_rfl, RL.out⟩
        · exact ⟨am, nm, cm, _, fun w' => by kernel_rfl, RM.out⟩
        · exact ⟨_, _, capg, _, fun w' => by kernel_rfl, R3.out⟩
      have HIB : Hid (∀ i : Nat, i < 3 → ∃ c0 c1 : Int, ∀ w', (Instr.index 37 (.agg #[.int .i64 b0, .int .i64 b1, .int .i64 X, .int .i64 Y, .int .i64 X, .int .i64 b1]) (.int .i64 (i : Int))).run Try.prog w' = .ok (.agg #[.int .i64 c0, .int .i64 c1]) w') := Lib.hid fun i hi => by
        obtain rfl | rfl | rfl : i = 0 ∨ i = 1 ∨ i = 2 := by omega
        · exact ⟨b0, b1, fun w' => by kernel_rfl⟩
        · exact ⟨X, Y, fun w' => by kernel_rfl⟩
        · exact ⟨X, b1, fun w' => by kernel_rfl⟩
      have HIN : Hid (∀ i : Nat, i < 3 → ∃ nv : Int, ∀ w', (Instr.index 38 (.agg #[.int .i64 t, .int .i64 z1, .int .i64 z2]) (.int .i64 (i : Int))).run Try.prog w' = .ok (.int .i64 nv) w') := Lib.hid fun i hi => by
        obtain rfl | rfl | rfl : i = 0 ∨ i = 1 ∨ i = 2 := by omega
        · exact ⟨t, fun w' => by kernel_rfl⟩
        · exact ⟨z1, fun w' => by kernel_rfl⟩
        · exact ⟨z2, fun w' => by kernel_rfl⟩
      clear RL RM R3
      go_loopw [72] (fun s72 wq => ∃ j : Nat, j ≤ 3 ∧ s72 = .int .i64 (j : Int) ∧ Hid (Keep w2 wq)) (fun j _ => 3 - (intOf j).toNat)
      case atStart => exact ⟨0, by omega, rfl, Lib.hid (Keep.refl _)⟩
      case round =>
        obtain ⟨j, hj, rfl, HQ⟩ := hrel
        by_cases hlj : j < 3
        · obtain ⟨aa, nn, cc, ll, hix, hrow⟩ := HIX.out j hlj
          have hlj' : (j : Int) < 3 := by omega
          have HROW := Lib.hid (hrow.keep HQ.out)
          obtain ⟨s1, s2, s3, hs⟩ : ∃ s1 s2 s3, sumR ll = ((s1, s2), s3) := ⟨_, _, _, rfl⟩
          have HS := Lib.hid hs
          clear hrow hs
          go_wp2_with (first | (go_at_call 11; ((with_reducible refine (sum_is _ ll s1 s2 s3 _ HROW HS).mono ?_); rintro _ w3 ⟨rfl, hk3⟩)) | (go_at_call 12; ((with_reducible refine (refSum_is _ ll s1 s2 s3 _ (Lib.hid ((HROW.out.keep hk3).keep (Keep.alloc (Keep.refl _) _))) HS).mono ?_); rintro _ w4 ⟨rfl, hk4⟩; have y0 := hk4.some (b := w3.heap.size) (o := 0) (v := .int .i64 s1) (by simp [go_sem]); have y1 := hk4.some (b := w3.heap.size) (o := 1) (v := .int .i64 s2) (by simp [go_sem]); have hy := cellBlock y0)))
          go_roundw
          case rel => exact ⟨j + 1, by omega, rfl, Lib.hid ((((HQ.out.trans hk3).alloc _).trans hk4).alloc _)⟩
          case measure => simp [intOf]; omega
        · obtain rfl : j = 3 := by omega
          have q0 := HQ.out.some q0
          have q1 := HQ.out.some q1
          have d0 := HQ.out.some d0
          have d1 := HQ.out.some d1
          have d2 := HQ.out.some d2
          have d3 := HQ.out.some d3
          have e0 := HQ.out.some e0
          have e1 := HQ.out.some e1
          have o0 := HQ.out.some o0
          have o1 := HQ.out.some o1
          have HD := Lib.hid (HD.out.keep HQ.out)
          have KK := Lib.hid (KK.out.trans HQ.out)
          clear HIX
          go_wp2
          go_loopw [102] (fun s102 wa => ∃ i : Nat, i ≤ 3 ∧ s102 = .int .i64 (i : Int) ∧ Hid (Keep wr wa)) (fun i _ => 3 - (intOf i).toNat)
          case atStart => exact ⟨0, by omega, rfl, Lib.hid (Keep.refl _)⟩
          case round =>
            obtain ⟨i, hi3, rfl, HA⟩ := hrel
            by_cases hli : i < 3
            · obtain ⟨c0, c1, hib⟩ := HIB.out i hli
              have hli' : (i : Int) < 3 := by omega
              go_wp2
              have k0 : (wr.alloc (.cells #[.int .i64 c0, .int .i64 c1] 23)).cell? ⟨wr.heap.size, 0, none⟩ = some (.int .i64 c0) := by simp [go_sem]
              have k1 : (wr.alloc (.cells #[.int .i64 c0, .int .i64 c1] 23)).cell? ⟨wr.heap.size, 1, none⟩ = some (.int .i64 c1) := by simp [go_sem]
              have HW := Lib.hid (HA.out.alloc (.cells #[.int .i64 c0, .int .i64 c1] 23))
              obtain ⟨BC, hBC⟩ : ∃ BC, wr.heap.size = BC := ⟨_, rfl⟩
              obtain ⟨W4, hW4⟩ : ∃ W4, wr.alloc (.cells #[.int .i64 c0, .int .i64 c1] 23) = W4 := ⟨_, rfl⟩
              rw [hBC] at k0 k1 ⊢
              rw [hW4] at k0 k1 HW ⊢
              clear hW4 hBC
              obtain ⟨E, hE⟩ : ∃ E, checkE c0 c1 = E := ⟨_, rfl⟩
              have HE := Lib.hid hE
              clear hE
              go_loopw [115] (fun s115 wc => ∃ h : Nat, h ≤ 3 ∧ s115 = .int .i64 (h : Int) ∧ Hid (Keep W4 wc)) (fun h _ => 3 - (intOf h).toNat)
              case atStart => exact ⟨0, by omega, rfl, Lib.hid (Keep.refl _)⟩
              case round =>
                obtain ⟨h, hh, rfl, HC⟩ := hrel
                by_cases hlh : h < 3
                · obtain ⟨nv, hin⟩ := HIN.out h hlh
                  have hlh' : (h : Int) < 3 := by omega
                  have k0 := HC.out.some k0
                  have k1 := HC.out.some k1
                  obtain ⟨f1, f2, hf⟩ : ∃ f1 f2, withinR c0 c1 nv = (f1, f2) := ⟨_, _, rfl⟩
                  have HF := Lib.hid hf
                  clear hf
                  go_upto_region 24 with (first | (go_at_call 13; ((with_reducible refine (within_is c0 c1 nv f1 f2 _ HF).mono ?_); rintro _ w5 ⟨rfl, hk5⟩; have k0 := hk5.some k0; have k1 := hk5.some k1)) | (go_at_call 14; ((with_reducible refine (refWithin_is c0 c1 nv f1 f2 _ HF).mono ?_); rintro _ w6 ⟨rfl, hk6⟩; have k0 := hk6.some k0; have k1 := hk6.some k1)))
                  refine region_inv (J := fun bb aa wy => ∃ v130 v131 v132 v133 v134 v135 v136 v137 v138 v139 v140 v141 v142 v143 v144 : Value, aa = ⟨#[Value.agg #[Value.int IntKind.i64 b0, Value.int IntKind.i64 b1], Value.agg #[Value.int IntKind.u32 B, Value.int IntKind.u32 R, Value.slice ga gl gc, Value.slice sa sl sc], Value.slice a0 m cap, Value.agg #[Value.int IntKind.i64 x, Value.int IntKind.i64 y], Value.int IntKind.i64 t, Value.pointer (some { block := w.heap.size, off := 0 }), Value.pointer (some { block := w.heap.size + 1, off := 0 }), undef, Value.pointer (some { block := w.heap.size + 1 + 1, off := 0 }), undef, u10, Value.pointer (some { block := BX, off := 0 }), Value.slice am nm cm, Value.int IntKind.i64 ↑m, undef, u15, u16, u17, u18, u19, undef, Value.pointer (some { block := BC, off := 0 }), undef, Value.int IntKind.i64 nv, Value.int IntKind.i64 f1, Value.int IntKind.i64 f2, Value.int IntKind.i64 f1, Value.int IntKind.i64 f2, undef, Value.slice a0 n cap, Value.slice a0 n cap, Value.int IntKind.i64 ↑n, Value.int IntKind.i64 ↑m, Value.slice a0 m cap, Value.agg #[Value.int IntKind.u32 B, Value.int IntKind.u32 R, Value.slice ga gl gc, Value.slice sa sl sc], Value.agg #[Value.int IntKind.i64 X, Value.int IntKind.i64 Y], Value.int IntKind.i64 ↑m, Value.slice a0 m cap, Value.int IntKind.i64 ↑m, Value.bool false, u40, u41, u42, u43, u44, u45, u46, u47, u48, u49, u50, u51, u52, u53, u54, u55, u56, u57, u58, u59, u60, u61, u62, u63, Value.slice a0 m cap, Value.slice am nm cm, Value.agg #[Value.int IntKind.i64 X, Value.int IntKind.i64 Y], Value.slice (some { block := BO, off := 0 }) 1 1, Value.agg #[Value.int IntKind.i64 b0, Value.int IntKind.i64 b1], Value.slice (some { block := BO + 1, off := 0 }) 1 1, Value.slice (some { block := g, off := 0 }) 2 capg, Value.agg #[Value.slice a0 m cap, Value.slice am nm cm, Value.slice (some { block := g, off := 0 }) 2 capg], Value.int IntKind.i64 3, Value.bool false, u74, u75, u76, u77, u78, u79, u80, u81, u82, u83, u84, u85, u86, u87, u88, u89, u90, u91, u92, u93, Value.agg #[Value.int IntKind.i64 b0, Value.int IntKind.i64 b1], Value.agg #[Value.int IntKind.i64 X, Value.int IntKind.i64 Y], Value.pointer (some { block := BX, off := 0 }), Value.int IntKind.i64 X, Value.pointer (some { block := w.heap.size, off := 1 }), Value.int IntKind.i64 b1, Value.agg #[Value.int IntKind.i64 X, Value.int IntKind.i64 b1], Value.agg #[Value.int IntKind.i64 b0, Value.int IntKind.i64 b1, Value.int IntKind.i64 X, Value.int IntKind.i64 Y, Value.int IntKind.i64 X, Value.int IntKind.i64 b1], Value.int IntKind.i64 ↑i, Value.bool true, Value.agg #[Value.int IntKind.i64 c0, Value.int IntKind.i64 c1], Value.int IntKind.i64 t, Value.int IntKind.i64 t, Value.int IntKind.u64 (IntKind.u64.wrap t), Value.int IntKind.u64 z1, Value.int IntKind.i64 z1, Value.int IntKind.i64 t, Value.int IntKind.u64 (IntKind.u64.wrap t), Value.int IntKind.u64 z2, Value.int IntKind.i64 z2, Value.agg #[Value.int IntKind.i64 t, Value.int IntKind.i64 z1, Value.int IntKind.i64 z2], Value.int IntKind.i64 ↑h, Value.bool true, Value.int IntKind.i64 nv, Value.tuple #[Value.int IntKind.i64 f1, Value.int IntKind.i64 f2], Value.agg #[Value.int IntKind.i64 c0, Value.int IntKind.i64 c1], Value.int IntKind.i64 nv, Value.tuple #[Value.int IntKind.i64 f1, Value.int IntKind.i64 f2], Value.int IntKind.i64 f1, Value.int IntKind.i64 f2, Value.tuple #[Value.int IntKind.i64 f1, Value.int IntKind.i64 f2], Value.agg #[Value.int IntKind.i64 c0, Value.int IntKind.i64 c1], Value.int IntKind.i64 nv, Value.tuple #[Value.int IntKind.i64 f1, Value.int IntKind.i64 f2], Value.int IntKind.i64 f1, Value.int IntKind.i64 f2, v130, v131, v132, v133, v134, v135, v136, v137, v138, v139, v140, v141, v142, v143, v144, u145, u146, undef, undef, undef, undef, undef, undef, undef, undef, undef, undef, undef, undef, undef, undef, undef, undef, undef, undef, undef, undef, undef, undef, undef], []⟩ ∧ Keep w6 wy ∧ (bb 0 → v130 = .int .i64 f1) ∧ (bb 1 → v131 = .int .i64 f1) ∧ (bb 2 → v132 = .bool false) ∧ (bb 3 → v133 = .bool false) ∧ (bb 4 → v134 = .int .i64 f2) ∧ (bb 5 → v135 = .int .i64 f2) ∧ (bb 6 → v136 = .bool false) ∧ (bb 7 → v137 = .bool false) ∧ (bb 8 → v138 = .bool false) ∧ (bb 9 → v139 = .agg #[.int .i64 c0, .int .i64 c1]) ∧ (bb 10 → v140 = .int .i64 E) ∧ (bb 11 → v141 = .agg #[.int .i64 c0, .int .i64 c1]) ∧ (bb 12 → v142 = .int .i64 E) ∧ (bb 13 → v143 = .bool false) ∧ (bb 14 → v144 = .bool false)) (by kernel_rfl) (by kernel_rfl) ?doney ?starty ?stepsy
                  case doney =>
                    rintro bb aa wy hb ⟨v130, v131, v132, v133, v134, v135, v136, v137, v138, v139, v140, v141, v142, v143, v144, rfl, G, f0, f1, f2, f3, f4, f5, f6, f7, f8, f9, f10, f11, f12, f13, f14⟩
                    have g0 := f0 (hb 0 (by decide))
                    have g1 := f1 (hb 1 (by decide))
                    have g2 := f2 (hb 2 (by decide))
                    have g3 := f3 (hb 3 (by decide))
                    have g4 := f4 (hb 4 (by decide))
                    have g5 := f5 (hb 5 (by decide))
                    have g6 := f6 (hb 6 (by decide))
                    have g7 := f7 (hb 7 (by decide))
                    have g8 := f8 (hb 8 (by decide))
                    have g9 := f9 (hb 9 (by decide))
                    have g10 := f10 (hb 10 (by decide))
                    have g11 := f11 (hb 11 (by decide))
                    have g12 := f12 (hb 12 (by decide))
                    have g13 := f13 (hb 13 (by decide))
                    have g14 := f14 (hb 14 (by decide))
                    obtain rfl := g0
                    obtain rfl := g1
                    obtain rfl := g2
                    obtain rfl := g3
                    obtain rfl := g4
                    obtain rfl := g5
                    obtain rfl := g6
                    obtain rfl := g7
                    obtain rfl := g8
                    obtain rfl := g9
                    obtain rfl := g10
                    obtain rfl := g11
                    obtain rfl := g12
                    obtain rfl := g13
                    obtain rfl := g14
                    clear f0 f1 f2 f3 f4 f5 f6 f7 f8 f9 f10 f11 f12 f13 f14
                    have HG := Lib.hid G
                    clear hb G
                    go_wp2
                    go_roundw
                    case rel => first | exact ⟨h + 1, by omega, rfl, Lib.hid (((HC.out.trans hk5).trans hk6).trans HG.out)⟩ | ((repeat apply Exists.intro); exact ⟨⟨h + 1, by omega, rfl, Lib.hid (((HC.out.trans hk5).trans hk6).trans HG.out)⟩, rfl⟩)
                    case measure => simp [intOf]; omega
                  case starty => exact ⟨_, _, _, _, _, _, _, _, _, _, _, _, _, _, _, rfl, Keep.drew (Keep.refl _), fun h => h.elim, fun h => h.elim, fun h => h.elim, fun h => h.elim, fun h => h.elim, fun h => h.elim, fun h => h.elim, fun h => h.elim, fun h => h.elim, fun h => h.elim, fun h => h.elim, fun h => h.elim, fun h => h.elim, fun h => h.elim, fun h => h.elim⟩
                  case stepsy =>
                    refine StepsFrom.cons (k := 0) ?_ (StepsFrom.cons (k := 1) ?_ (StepsFrom.cons (k := 2) ?_ (StepsFrom.cons (k := 3) ?_ (StepsFrom.cons (k := 4) ?_ (StepsFrom.cons (k := 5) ?_ (StepsFrom.cons (k := 6) ?_ (StepsFrom.cons (k := 7) ?_ (StepsFrom.cons (k := 8) ?_ (StepsFrom.cons (k := 9) ?_ (StepsFrom.cons (k := 10) ?_ (StepsFrom.cons (k := 11) ?_ (StepsFrom.cons (k := 12) ?_ (StepsFrom.cons (k := 13) ?_ (StepsFrom.cons (k := 14) ?_ (StepsFrom.nil)))))))))))))))
                    · -- 0: val
                      rintro bb aa wy hn hd ⟨v130, v131, v132, v133, v134, v135, v136, v137, v138, v139, v140, v141, v142, v143, v144, rfl, G, f0, f1, f2, f3, f4, f5, f6, f7, f8, f9, f10, f11, f12, f13, f14⟩ K hK
                      have HK := Lib.hid hK
                      clear hK
                      go_simp
                      exact HK.out _ _ ⟨_, _, _, _, _, _, _, _, _, _, _, _, _, _, _, rfl, G, fun _ => rfl, up (by decide) f1, up (by decide) f2, up (by decide) f3, up (by decide) f4, up (by decide) f5, up (by decide) f6, up (by decide) f7, up (by decide) f8, up (by decide) f9, up (by decide) f10, up (by decide) f11, up (by decide) f12, up (by decide) f13, up (by decide) f14⟩
                    · -- 1: val
                      rintro bb aa wy hn hd ⟨v130, v131, v132, v133, v134, v135, v136, v137, v138, v139, v140, v141, v142, v143, v144, rfl, G, f0, f1, f2, f3, f4, f5, f6, f7, f8, f9, f10, f11, f12, f13, f14⟩ K hK
                      have HK := Lib.hid hK
                      clear hK
                      go_simp
                      exact HK.out _ _ ⟨_, _, _, _, _, _, _, _, _, _, _, _, _, _, _, rfl, G, up (by decide) f0, fun _ => rfl, up (by decide) f2, up (by decide) f3, up (by decide) f4, up (by decide) f5, up (by decide) f6, up (by decide) f7, up (by decide) f8, up (by decide) f9, up (by decide) f10, up (by decide) f11, up (by decide) f12, up (by decide) f13, up (by decide) f14⟩
                    · -- 2: val
                      rintro bb aa wy hn hd ⟨v130, v131, v132, v133, v134, v135, v136, v137, v138, v139, v140, v141, v142, v143, v144, rfl, G, f0, f1, f2, f3, f4, f5, f6, f7, f8, f9, f10, f11, f12, f13, f14⟩ K hK
                      have b0 : bb 0 := hd ⟨0, .data⟩ (by simp) (by rfl)
                      obtain rfl := f0 b0
                      have b1 : bb 1 := hd ⟨1, .data⟩ (by simp) (by rfl)
                      obtain rfl := f1 b1
                      have HK := Lib.hid hK
                      clear hK
                      go_simp
                      exact HK.out _ _ ⟨_, _, _, _, _, _, _, _, _, _, _, _, _, _, _, rfl, G, fun _ => rfl, fun _ => rfl, fun _ => rfl, up (by decide) f3, up (by decide) f4, up (by decide) f5, up (by decide) f6, up (by decide) f7, up (by decide) f8, up (by decide) f9, up (by decide) f10, up (by decide) f11, up (by decide) f12, up (by decide) f13, up (by decide) f14⟩
                    · -- 3: val
                      rintro bb aa wy hn hd ⟨v130, v131, v132, v133, v134, v135, v136, v137, v138, v139, v140, v141, v142, v143, v144, rfl, G, f0, f1, f2, f3, f4, f5, f6, f7, f8, f9, f10, f11, f12, f13, f14⟩ K hK
                      have b2 : bb 2 := hd ⟨2, .data⟩ (by simp) (by rfl)
                      obtain rfl := f2 b2
                      have HK := Lib.hid hK
                      clear hK
                      go_simp
                      exact HK.out _ _ ⟨_, _, _, _, _, _, _, _, _, _, _, _, _, _, _, rfl, G, up (by decide) f0, up (by decide) f1, fun _ => rfl, fun _ => rfl, up (by decide) f4, up (by decide) f5, up (by decide) f6, up (by decide) f7, up (by decide) f8, up (by decide) f9, up (by decide) f10, up (by decide) f11, up (by decide) f12, up (by decide) f13, up (by decide) f14⟩
                    · -- 4: val
                      rintro bb aa wy hn hd ⟨v130, v131, v132, v133, v134, v135, v136, v137, v138, v139, v140, v141, v142, v143, v144, rfl, G, f0, f1, f2, f3, f4, f5, f6, f7, f8, f9, f10, f11, f12, f13, f14⟩ K hK
                      have b3 : bb 3 := hd ⟨3, .guard⟩ (by simp) (by rfl)
                      obtain rfl := f3 b3
                      have HK := Lib.hid hK
                      clear hK
                      go_simp
                      exact HK.out _ _ ⟨_, _, _, _, _, _, _, _, _, _, _, _, _, _, _, rfl, G, up (by decide) f0, up (by decide) f1, up (by decide) f2, fun _ => rfl, fun _ => rfl, up (by decide) f5, up (by decide) f6, up (by decide) f7, up (by decide) f8, up (by decide) f9, up (by decide) f10, up (by decide) f11, up (by decide) f12, up (by decide) f13, up (by decide) f14⟩
                    · -- 5: val
                      rintro bb aa wy hn hd ⟨v130, v131, v132, v133, v134, v135, v136, v137, v138, v139, v140, v141, v142, v143, v144, rfl, G, f0, f1, f2, f3, f4, f5, f6, f7, f8, f9, f10, f11, f12, f13, f14⟩ K hK
                      have b3 : bb 3 := hd ⟨3, .guard⟩ (by simp) (by rfl)
                      obtain rfl := f3 b3
                      have HK := Lib.hid hK
                      clear hK
                      go_simp
                      exact HK.out _ _ ⟨_, _, _, _, _, _, _, _, _, _, _, _, _, _, _, rfl, G, up (by decide) f0, up (by decide) f1, up (by decide) f2, fun _ => rfl, up (by decide) f4, fun _ => rfl, up (by decide) f6, up (by decide) f7, up (by decide) f8, up (by decide) f9, up (by decide) f10, up (by decide) f11, up (by decide) f12, up (by decide) f13, up (by decide) f14⟩
                    · -- 6: val
                      rintro bb aa wy hn hd ⟨v130, v131, v132, v133, v134, v135, v136, v137, v138, v139, v140, v141, v142, v143, v144, rfl, G, f0, f1, f2, f3, f4, f5, f6, f7, f8, f9, f10, f11, f12, f13, f14⟩ K hK
                      have b4 : bb 4 := hd ⟨4, .data⟩ (by simp) (by rfl)
                      obtain rfl := f4 b4
                      have b5 : bb 5 := hd ⟨5, .data⟩ (by simp) (by rfl)
                      obtain rfl := f5 b5
                      have b3 : bb 3 := hd ⟨3, .guard⟩ (by simp) (by rfl)
                      obtain rfl := f3 b3
                      have HK := Lib.hid hK
                      clear hK
                      go_simp
                      exact HK.out _ _ ⟨_, _, _, _, _, _, _, _, _, _, _, _, _, _, _, rfl, G, up (by decide) f0, up (by decide) f1, up (by decide) f2, fun _ => rfl, fun _ => rfl, fun _ => rfl, fun _ => rfl, up (by decide) f7, up (by decide) f8, up (by decide) f9, up (by decide) f10, up (by decide) f11, up (by decide) f12, up (by decide) f13, up (by decide) f14⟩
                    · -- 7: val
                      rintro bb aa wy hn hd ⟨v130, v131, v132, v133, v134, v135, v136, v137, v138, v139, v140, v141, v142, v143, v144, rfl, G, f0, f1, f2, f3, f4, f5, f6, f7, f8, f9, f10, f11, f12, f13, f14⟩ K hK
                      have b3 : bb 3 := hd ⟨3, .data⟩ (by simp) (by rfl)
                      obtain rfl := f3 b3
                      have b6 : bb 6 := hd ⟨6, .data⟩ (by simp) (by rfl)
                      obtain rfl := f6 b6
                      have HK := Lib.hid hK
                      clear hK
                      go_simp
                      exact HK.out _ _ ⟨_, _, _, _, _, _, _, _, _, _, _, _, _, _, _, rfl, G, up (by decide) f0, up (by decide) f1, up (by decide) f2, fun _ => rfl, up (by decide) f4, up (by decide) f5, fun _ => rfl, fun _ => rfl, up (by decide) f8, up (by decide) f9, up (by decide) f10, up (by decide) f11, up (by decide) f12, up (by decide) f13, up (by decide) f14⟩
                    · -- 8: val
                      rintro bb aa wy hn hd ⟨v130, v131, v132, v133, v134, v135, v136, v137, v138, v139, v140, v141, v142, v143, v144, rfl, G, f0, f1, f2, f3, f4, f5, f6, f7, f8, f9, f10, f11, f12, f13, f14⟩ K hK
                      have b7 : bb 7 := hd ⟨7, .data⟩ (by simp) (by rfl)
                      obtain rfl := f7 b7
                      have HK := Lib.hid hK
                      clear hK
                      go_simp
                      exact HK.out _ _ ⟨_, _, _, _, _, _, _, _, _, _, _, _, _, _, _, rfl, G, up (by decide) f0, up (by decide) f1, up (by decide) f2, up (by decide) f3, up (by decide) f4, up (by decide) f5, up (by decide) f6, fun _ => rfl, fun _ => rfl, up (by decide) f9, up (by decide) f10, up (by decide) f11, up (by decide) f12, up (by decide) f13, up (by decide) f14⟩
                    · -- 9: val
                      rintro bb aa wy hn hd ⟨v130, v131, v132, v133, v134, v135, v136, v137, v138, v139, v140, v141, v142, v143, v144, rfl, G, f0, f1, f2, f3, f4, f5, f6, f7, f8, f9, f10, f11, f12, f13, f14⟩ K hK
                      have b8 : bb 8 := hd ⟨8, .guard⟩ (by simp) (by rfl)
                      obtain rfl := f8 b8
                      have k0 := G.some k0
                      have k1 := G.some k1
                      have HK := Lib.hid hK
                      clear hK
                      go_simp
                      exact HK.out _ _ ⟨_, _, _, _, _, _, _, _, _, _, _, _, _, _, _, rfl, G, up (by decide) f0, up (by decide) f1, up (by decide) f2, up (by decide) f3, up (by decide) f4, up (by decide) f5, up (by decide) f6, up (by decide) f7, fun _ => rfl, fun _ => rfl, up (by decide) f10, up (by decide) f11, up (by decide) f12, up (by decide) f13, up (by decide) f14⟩
                    · -- 10: val
                      rintro bb aa wy hn hd ⟨v130, v131, v132, v133, v134, v135, v136, v137, v138, v139, v140, v141, v142, v143, v144, rfl, G, f0, f1, f2, f3, f4, f5, f6, f7, f8, f9, f10, f11, f12, f13, f14⟩ K hK
                      have b9 : bb 9 := hd ⟨9, .data⟩ (by simp) (by rfl)
                      obtain rfl := f9 b9
                      have b8 : bb 8 := hd ⟨8, .guard⟩ (by simp) (by rfl)
                      obtain rfl := f8 b8
                      have HK := Lib.hid hK
                      clear hK
                      go_wp2_with (go_at_call 15; ((with_reducible refine (check_is c0 c1 E _ HE).mono ?_); rintro _ w1 ⟨rfl, hk⟩))
                      exact HK.out _ _ ⟨_, _, _, _, _, _, _, _, _, _, _, _, _, _, _, rfl, (G.trans hk), up (by decide) f0, up (by decide) f1, up (by decide) f2, up (by decide) f3, up (by decide) f4, up (by decide) f5, up (by decide) f6, up (by decide) f7, fun _ => rfl, fun _ => rfl, fun _ => rfl, up (by decide) f11, up (by decide) f12, up (by decide) f13, up (by decide) f14⟩
                    · -- 11: val
                      rintro bb aa wy hn hd ⟨v130, v131, v132, v133, v134, v135, v136, v137, v138, v139, v140, v141, v142, v143, v144, rfl, G, f0, f1, f2, f3, f4, f5, f6, f7, f8, f9, f10, f11, f12, f13, f14⟩ K hK
                      have b8 : bb 8 := hd ⟨8, .guard⟩ (by simp) (by rfl)
                      obtain rfl := f8 b8
                      have k0 := G.some k0
                      have k1 := G.some k1
                      have HK := Lib.hid hK
                      clear hK
                      go_simp
                      exact HK.out _ _ ⟨_, _, _, _, _, _, _, _, _, _, _, _, _, _, _, rfl, G, up (by decide) f0, up (by decide) f1, up (by decide) f2, up (by decide) f3, up (by decide) f4, up (by decide) f5, up (by decide) f6, up (by decide) f7, fun _ => rfl, up (by decide) f9, up (by decide) f10, fun _ => rfl, up (by decide) f12, up (by decide) f13, up (by decide) f14⟩
                    · -- 12: val
                      rintro bb aa wy hn hd ⟨v130, v131, v132, v133, v134, v135, v136, v137, v138, v139, v140, v141, v142, v143, v144, rfl, G, f0, f1, f2, f3, f4, f5, f6, f7, f8, f9, f10, f11, f12, f13, f14⟩ K hK
                      have b11 : bb 11 := hd ⟨11, .data⟩ (by simp) (by rfl)
                      obtain rfl := f11 b11
                      have b8 : bb 8 := hd ⟨8, .guard⟩ (by simp) (by rfl)
                      obtain rfl := f8 b8
                      have HK := Lib.hid hK
                      clear hK
                      go_wp2_with (go_at_call 16; ((with_reducible refine (refCheck_is c0 c1 E _ HE).mono ?_); rintro _ w1 ⟨rfl, hk⟩))
                      exact HK.out _ _ ⟨_, _, _, _, _, _, _, _, _, _, _, _, _, _, _, rfl, (G.trans hk), up (by decide) f0, up (by decide) f1, up (by decide) f2, up (by decide) f3, up (by decide) f4, up (by decide) f5, up (by decide) f6, up (by decide) f7, fun _ => rfl, up (by decide) f9, up (by decide) f10, fun _ => rfl, fun _ => rfl, up (by decide) f13, up (by decide) f14⟩
                    · -- 13: val
                      rintro bb aa wy hn hd ⟨v130, v131, v132, v133, v134, v135, v136, v137, v138, v139, v140, v141, v142, v143, v144, rfl, G, f0, f1, f2, f3, f4, f5, f6, f7, f8, f9, f10, f11, f12, f13, f14⟩ K hK
                      have b10 : bb 10 := hd ⟨10, .data⟩ (by simp) (by rfl)
                      obtain rfl := f10 b10
                      have b12 : bb 12 := hd ⟨12, .data⟩ (by simp) (by rfl)
                      obtain rfl := f12 b12
                      have b8 : bb 8 := hd ⟨8, .guard⟩ (by simp) (by rfl)
                      obtain rfl := f8 b8
                      have HK := Lib.hid hK
                      clear hK
                      go_simp
                      exact HK.out _ _ ⟨_, _, _, _, _, _, _, _, _, _, _, _, _, _, _, rfl, G, up (by decide) f0, up (by decide) f1, up (by decide) f2, up (by decide) f3, up (by decide) f4, up (by decide) f5, up (by decide) f6, up (by decide) f7, fun _ => rfl, up (by decide) f9, fun _ => rfl, up (by decide) f11, fun _ => rfl, fun _ => rfl, up (by decide) f14⟩
                    · -- 14: val
                      rintro bb aa wy hn hd ⟨v130, v131, v132, v133, v134, v135, v136, v137, v138, v139, v140, v141, v142, v143, v144, rfl, G, f0, f1, f2, f3, f4, f5, f6, f7, f8, f9, f10, f11, f12, f13, f14⟩ K hK
                      have b8 : bb 8 := hd ⟨8, .data⟩ (by simp) (by rfl)
                      obtain rfl := f8 b8
                      have b13 : bb 13 := hd ⟨13, .data⟩ (by simp) (by rfl)
                      obtain rfl := f13 b13
                      have HK := Lib.hid hK
                      clear hK
                      go_simp
                      exact HK.out _ _ ⟨_, _, _, _, _, _, _, _, _, _, _, _, _, _, _, rfl, G, up (by decide) f0, up (by decide) f1, up (by decide) f2, up (by decide) f3, up (by decide) f4, up (by decide) f5, up (by decide) f6, up (by decide) f7, fun _ => rfl, up (by decide) f9, up (by decide) f10, up (by decide) f11, up (by decide) f12, fun _ => rfl, fun _ => rfl⟩
                · obtain rfl : h = 3 := by omega
                  go_wp2
                  go_roundw
                  case rel => exact ⟨i + 1, by omega, rfl, Lib.hid (HW.out.trans HC.out)⟩
                  case measure => simp [intOf]; omega
            · obtain rfl : i = 3 := by omega
              have d0 := HA.out.some d0
              have d1 := HA.out.some d1
              have d2 := HA.out.some d2
              have d3 := HA.out.some d3
              have e0 := HA.out.some e0
              have e1 := HA.out.some e1
              have HD := Lib.hid (HD.out.keep HA.out)
              have KK := Lib.hid (KK.out.trans HA.out)
              go_upto_region 29 with (go_at_call 17; ((with_reducible refine (draftTrace_is _ B R gs ss _ HD l Hl).mono ?_); rintro _ w7 ⟨v7, rfl, hr7, hk7, hf7⟩; have e0 := hk7.some e0; have e1 := hk7.some e1; have KK := Lib.hid (KK.out.trans hk7); obtain ⟨at1, ct1, rfl, -⟩ := hr7.form; have RT := Lib.hid hr7))
              obtain ⟨lb, hlb⟩ : ∃ lb, bentL l x y p = lb := ⟨_, rfl⟩
              have HBL := Lib.hid hlb
              have HT0 : Hid (traceE l = 0) := Lib.hid (by unfold traceE; rw [if_pos Hok.out])
              obtain ⟨F, hF⟩ : ∃ F, traceE lb = F := ⟨_, rfl⟩
              have HTB := Lib.hid hF
              clear hlb hF hr7 hf7
              refine region_inv (J := fun bb aa wz => ∃ v10 v149 v150 v151 v152 v153 v154 v155 v156 v157 v158 v159 v160 v161 v162 v163 v164 v165 v166 v167 v168 v169 : Value, aa = ⟨#[Value.agg #[Value.int IntKind.i64 b0, Value.int IntKind.i64 b1], Value.agg #[Value.int IntKind.u32 B, Value.int IntKind.u32 R, Value.slice ga gl gc, Value.slice sa sl sc], Value.slice a0 m cap, Value.agg #[Value.int IntKind.i64 x, Value.int IntKind.i64 y], Value.int IntKind.i64 t, Value.pointer (some { block := w.heap.size, off := 0 }), Value.pointer (some { block := w.heap.size + 1, off := 0 }), undef, Value.pointer (some { block := w.heap.size + 1 + 1, off := 0 }), undef, v10, Value.pointer (some { block := BX, off := 0 }), Value.slice am nm cm, Value.int IntKind.i64 ↑m, undef, u15, u16, u17, u18, u19, undef, u21, undef, u23, u24, u25, u26, u27, Value.slice at1 l.length ct1, Value.slice a0 n cap, Value.slice a0 n cap, Value.int IntKind.i64 ↑n, Value.int IntKind.i64 ↑m, Value.slice a0 m cap, Value.agg #[Value.int IntKind.u32 B, Value.int IntKind.u32 R, Value.slice ga gl gc, Value.slice sa sl sc], Value.agg #[Value.int IntKind.i64 X, Value.int IntKind.i64 Y], Value.int IntKind.i64 ↑m, Value.slice a0 m cap, Value.int IntKind.i64 ↑m, Value.bool false, u40, u41, u42, u43, u44, u45, u46, u47, u48, u49, u50, u51, u52, u53, u54, u55, u56, u57, u58, u59, u60, u61, u62, u63, Value.slice a0 m cap, Value.slice am nm cm, Value.agg #[Value.int IntKind.i64 X, Value.int IntKind.i64 Y], Value.slice (some { block := BO, off := 0 }) 1 1, Value.agg #[Value.int IntKind.i64 b0, Value.int IntKind.i64 b1], Value.slice (some { block := BO + 1, off := 0 }) 1 1, Value.slice (some { block := g, off := 0 }) 2 capg, Value.agg #[Value.slice a0 m cap, Value.slice am nm cm, Value.slice (some { block := g, off := 0 }) 2 capg], Value.int IntKind.i64 3, Value.bool false, u74, u75, u76, u77, u78, u79, u80, u81, u82, u83, u84, u85, u86, u87, u88, u89, u90, u91, u92, u93, Value.agg #[Value.int IntKind.i64 b0, Value.int IntKind.i64 b1], Value.agg #[Value.int IntKind.i64 X, Value.int IntKind.i64 Y], Value.pointer (some { block := BX, off := 0 }), Value.int IntKind.i64 X, Value.pointer (some { block := w.heap.size, off := 1 }), Value.int IntKind.i64 b1, Value.agg #[Value.int IntKind.i64 X, Value.int IntKind.i64 b1], Value.agg #[Value.int IntKind.i64 b0, Value.int IntKind.i64 b1, Value.int IntKind.i64 X, Value.int IntKind.i64 Y, Value.int IntKind.i64 X, Value.int IntKind.i64 b1], Value.int IntKind.i64 3, Value.bool false, u104, u105, u106, u107, u108, u109, u110, u111, u112, u113, u114, u115, u116, u117, u118, u119, u120, u121, u122, u123, u124, u125, u126, u127, u128, u129, u130, u131, u132, u133, u134, u135, u136, u137, u138, u139, u140, u141, u142, u143, u144, u145, u146, Value.agg #[Value.int IntKind.u32 B, Value.int IntKind.u32 R, Value.slice ga gl gc, Value.slice sa sl sc], Value.slice at1 l.length ct1, v149, v150, v151, v152, v153, v154, v155, v156, v157, v158, v159, v160, v161, v162, v163, v164, v165, v166, v167, v168, v169], []⟩ ∧ Keep w7 wz ∧ (bb 0 → v149 = .slice at1 l.length ct1) ∧ (bb 1 → v150 = .int .i64 0) ∧ (bb 2 → v151 = .bool true) ∧ (bb 3 → v152 = .bool true) ∧ (bb 4 → v153 = .slice at1 l.length ct1) ∧ (bb 5 → v154 = .agg #[.int .i64 x, .int .i64 y]) ∧ (bb 6 → v155 = .int .i64 t) ∧ (bb 7 → v156 = .int .u8 p) ∧ (bb 8 → RowAt wz v157 (lb)) ∧ (bb 9 → v158 = .int .i64 F) ∧ (bb 10 → v159 = .slice at1 l.length ct1) ∧ (bb 11 → v160 = .agg #[.int .i64 x, .int .i64 y]) ∧ (bb 12 → v161 = .int .i64 t) ∧ (bb 13 → v162 = .int .u8 p) ∧ (bb 14 → RowAt wz v163 (lb)) ∧ (bb 15 → v164 = .int .i64 F) ∧ (bb 16 → v165 = .bool true) ∧ (bb 17 → v166 = .bool true) ∧ (bb 18 → v167 = .bool true) ∧ (bb 19 → v168 = .bool true) ∧ (bb 20 → v169 = .bool true) ∧ (bb 21 → v10 = .bool true)) (by kernel_rfl) (by kernel_rfl) ?donez ?startz ?stepsz
              case donez =>
                rintro bb aa wz hb ⟨v10, v149, v150, v151, v152, v153, v154, v155, v156, v157, v158, v159, v160, v161, v162, v163, v164, v165, v166, v167, v168, v169, rfl, G, f0, f1, f2, f3, f4, f5, f6, f7, f8, f9, f10, f11, f12, f13, f14, f15, f16, f17, f18, f19, f20, f21⟩
                have g0 := f0 (hb 0 (by decide))
                have g1 := f1 (hb 1 (by decide))
                have g2 := f2 (hb 2 (by decide))
                have g3 := f3 (hb 3 (by decide))
                have g4 := f4 (hb 4 (by decide))
                have g5 := f5 (hb 5 (by decide))
                have g6 := f6 (hb 6 (by decide))
                have g7 := f7 (hb 7 (by decide))
                have g8 := f8 (hb 8 (by decide))
                have g9 := f9 (hb 9 (by decide))
                have g10 := f10 (hb 10 (by decide))
                have g11 := f11 (hb 11 (by decide))
                have g12 := f12 (hb 12 (by decide))
                have g13 := f13 (hb 13 (by decide))
                have g14 := f14 (hb 14 (by decide))
                have g15 := f15 (hb 15 (by decide))
                have g16 := f16 (hb 16 (by decide))
                have g17 := f17 (hb 17 (by decide))
                have g18 := f18 (hb 18 (by decide))
                have g19 := f19 (hb 19 (by decide))
                have g20 := f20 (hb 20 (by decide))
                have g21 := f21 (hb 21 (by decide))
                obtain rfl := g0
                obtain rfl := g1
                obtain rfl := g2
                obtain rfl := g3
                obtain rfl := g4
                obtain rfl := g5
                obtain rfl := g6
                obtain rfl := g7
                obtain rfl := g9
                obtain rfl := g10
                obtain rfl := g11
                obtain rfl := g12
                obtain rfl := g13
                obtain rfl := g15
                obtain rfl := g16
                obtain rfl := g17
                obtain rfl := g18
                obtain rfl := g19
                obtain rfl := g20
                obtain rfl := g21
                clear f0 f1 f2 f3 f4 f5 f6 f7 f8 f9 f10 f11 f12 f13 f14 f15 f16 f17 f18 f19 f20 f21
                clear hb g8 g14
                go_wp2
                go_ret
                exact ⟨rfl, KK.out.trans G⟩
              case startz => exact ⟨_, _, _, _, _, _, _, _, _, _, _, _, _, _, _, _, _, _, _, _, _, _, rfl, Keep.drew (Keep.refl _), fun h => h.elim, fun h => h.elim, fun h => h.elim, fun h => h.elim, fun h => h.elim, fun h => h.elim, fun h => h.elim, fun h => h.elim, fun h => h.elim, fun h => h.elim, fun h => h.elim, fun h => h.elim, fun h => h.elim, fun h => h.elim, fun h => h.elim, fun h => h.elim, fun h => h.elim, fun h => h.elim, fun h => h.elim, fun h => h.elim, fun h => h.elim, fun h => h.elim⟩
              case stepsz =>
                refine StepsFrom.cons (k := 0) ?_ (StepsFrom.cons (k := 1) ?_ (StepsFrom.cons (k := 2) ?_ (StepsFrom.cons (k := 3) ?_ (StepsFrom.cons (k := 4) ?_ (StepsFrom.cons (k := 5) ?_ (StepsFrom.cons (k := 6) ?_ (StepsFrom.cons (k := 7) ?_ (StepsFrom.cons (k := 8) ?_ (StepsFrom.cons (k := 9) ?_ (StepsFrom.cons (k := 10) ?_ (StepsFrom.cons (k := 11) ?_ (StepsFrom.cons (k := 12) ?_ (StepsFrom.cons (k := 13) ?_ (StepsFrom.cons (k := 14) ?_ (StepsFrom.cons (k := 15) ?_ (StepsFrom.cons (k := 16) ?_ (StepsFrom.cons (k := 17) ?_ (StepsFrom.cons (k := 18) ?_ (StepsFrom.cons (k := 19) ?_ (StepsFrom.cons (k := 20) ?_ (StepsFrom.cons (k := 21) ?_ (StepsFrom.nil))))))))))))))))))))))
                · -- 0: val
                  rintro bb aa wz hn hd ⟨v10, v149, v150, v151, v152, v153, v154, v155, v156, v157, v158, v159, v160, v161, v162, v163, v164, v165, v166, v167, v168, v169, rfl, G, f0, f1, f2, f3, f4, f5, f6, f7, f8, f9, f10, f11, f12, f13, f14, f15, f16, f17, f18, f19, f20, f21⟩ K hK
                  have HK := Lib.hid hK
                  clear hK
                  go_simp
                  exact HK.out _ _ ⟨_, _, _, _, _, _, _, _, _, _, _, _, _, _, _, _, _, _, _, _, _, _, rfl, G, fun _ => rfl, up (by decide) f1, up (by decide) f2, up (by decide) f3, up (by decide) f4, up (by decide) f5, up (by decide) f6, up (by decide) f7, fun h => (f8 (down (by decide) h)).keep (Keep.refl _), up (by decide) f9, up (by decide) f10, up (by decide) f11, up (by decide) f12, up (by decide) f13, fun h => (f14 (down (by decide) h)).keep (Keep.refl _), up (by decide) f15, up (by decide) f16, up (by decide) f17, up (by decide) f18, up (by decide) f19, up (by decide) f20, up (by decide) f21⟩
                · -- 1: val
                  rintro bb aa wz hn hd ⟨v10, v149, v150, v151, v152, v153, v154, v155, v156, v157, v158, v159, v160, v161, v162, v163, v164, v165, v166, v167, v168, v169, rfl, G, f0, f1, f2, f3, f4, f5, f6, f7, f8, f9, f10, f11, f12, f13, f14, f15, f16, f17, f18, f19, f20, f21⟩ K hK
                  have b0 : bb 0 := hd ⟨0, .data⟩ (by simp) (by rfl)
                  obtain rfl := f0 b0
                  have HK := Lib.hid hK
                  clear hK
                  go_wp2_with (go_at_call 18; ((with_reducible refine (checkTrace_is _ l 0 _ (Lib.hid (RT.out.keep G)) HT0).mono ?_); rintro _ w1 ⟨rfl, hk⟩))
                  exact HK.out _ _ ⟨_, _, _, _, _, _, _, _, _, _, _, _, _, _, _, _, _, _, _, _, _, _, rfl, (G.trans hk), fun _ => rfl, fun _ => rfl, up (by decide) f2, up (by decide) f3, up (by decide) f4, up (by decide) f5, up (by decide) f6, up (by decide) f7, fun h => (f8 (down (by decide) h)).keep hk, up (by decide) f9, up (by decide) f10, up (by decide) f11, up (by decide) f12, up (by decide) f13, fun h => (f14 (down (by decide) h)).keep hk, up (by decide) f15, up (by decide) f16, up (by decide) f17, up (by decide) f18, up (by decide) f19, up (by decide) f20, up (by decide) f21⟩
                · -- 2: val
                  rintro bb aa wz hn hd ⟨v10, v149, v150, v151, v152, v153, v154, v155, v156, v157, v158, v159, v160, v161, v162, v163, v164, v165, v166, v167, v168, v169, rfl, G, f0, f1, f2, f3, f4, f5, f6, f7, f8, f9, f10, f11, f12, f13, f14, f15, f16, f17, f18, f19, f20, f21⟩ K hK
                  have b1 : bb 1 := hd ⟨1, .data⟩ (by simp) (by rfl)
                  obtain rfl := f1 b1
                  have HK := Lib.hid hK
                  clear hK
                  go_simp
                  exact HK.out _ _ ⟨_, _, _, _, _, _, _, _, _, _, _, _, _, _, _, _, _, _, _, _, _, _, rfl, G, up (by decide) f0, fun _ => rfl, fun _ => rfl, up (by decide) f3, up (by decide) f4, up (by decide) f5, up (by decide) f6, up (by decide) f7, fun h => (f8 (down (by decide) h)).keep (Keep.refl _), up (by decide) f9, up (by decide) f10, up (by decide) f11, up (by decide) f12, up (by decide) f13, fun h => (f14 (down (by decide) h)).keep (Keep.refl _), up (by decide) f15, up (by decide) f16, up (by decide) f17, up (by decide) f18, up (by decide) f19, up (by decide) f20, up (by decide) f21⟩
                · -- 3: val
                  rintro bb aa wz hn hd ⟨v10, v149, v150, v151, v152, v153, v154, v155, v156, v157, v158, v159, v160, v161, v162, v163, v164, v165, v166, v167, v168, v169, rfl, G, f0, f1, f2, f3, f4, f5, f6, f7, f8, f9, f10, f11, f12, f13, f14, f15, f16, f17, f18, f19, f20, f21⟩ K hK
                  have b2 : bb 2 := hd ⟨2, .data⟩ (by simp) (by rfl)
                  obtain rfl := f2 b2
                  have HK := Lib.hid hK
                  clear hK
                  go_simp
                  exact HK.out _ _ ⟨_, _, _, _, _, _, _, _, _, _, _, _, _, _, _, _, _, _, _, _, _, _, rfl, G, up (by decide) f0, up (by decide) f1, fun _ => rfl, fun _ => rfl, up (by decide) f4, up (by decide) f5, up (by decide) f6, up (by decide) f7, fun h => (f8 (down (by decide) h)).keep (Keep.refl _), up (by decide) f9, up (by decide) f10, up (by decide) f11, up (by decide) f12, up (by decide) f13, fun h => (f14 (down (by decide) h)).keep (Keep.refl _), up (by decide) f15, up (by decide) f16, up (by decide) f17, up (by decide) f18, up (by decide) f19, up (by decide) f20, up (by decide) f21⟩
                · -- 4: val
                  rintro bb aa wz hn hd ⟨v10, v149, v150, v151, v152, v153, v154, v155, v156, v157, v158, v159, v160, v161, v162, v163, v164, v165, v166, v167, v168, v169, rfl, G, f0, f1, f2, f3, f4, f5, f6, f7, f8, f9, f10, f11, f12, f13, f14, f15, f16, f17, f18, f19, f20, f21⟩ K hK
                  have b3 : bb 3 := hd ⟨3, .guard⟩ (by simp) (by rfl)
                  obtain rfl := f3 b3
                  have HK := Lib.hid hK
                  clear hK
                  go_simp
                  exact HK.out _ _ ⟨_, _, _, _, _, _, _, _, _, _, _, _, _, _, _, _, _, _, _, _, _, _, rfl, G, up (by decide) f0, up (by decide) f1, up (by decide) f2, fun _ => rfl, fun _ => rfl, up (by decide) f5, up (by decide) f6, up (by decide) f7, fun h => (f8 (down (by decide) h)).keep (Keep.refl _), up (by decide) f9, up (by decide) f10, up (by decide) f11, up (by decide) f12, up (by decide) f13, fun h => (f14 (down (by decide) h)).keep (Keep.refl _), up (by decide) f15, up (by decide) f16, up (by decide) f17, up (by decide) f18, up (by decide) f19, up (by decide) f20, up (by decide) f21⟩
                · -- 5: val
                  rintro bb aa wz hn hd ⟨v10, v149, v150, v151, v152, v153, v154, v155, v156, v157, v158, v159, v160, v161, v162, v163, v164, v165, v166, v167, v168, v169, rfl, G, f0, f1, f2, f3, f4, f5, f6, f7, f8, f9, f10, f11, f12, f13, f14, f15, f16, f17, f18, f19, f20, f21⟩ K hK
                  have b3 : bb 3 := hd ⟨3, .guard⟩ (by simp) (by rfl)
                  obtain rfl := f3 b3
                  have k0 := G.some e0
                  have k1 := G.some e1
                  have HK := Lib.hid hK
                  clear hK
                  go_simp
                  exact HK.out _ _ ⟨_, _, _, _, _, _, _, _, _, _, _, _, _, _, _, _, _, _, _, _, _, _, rfl, G, up (by decide) f0, up (by decide) f1, up (by decide) f2, fun _ => rfl, up (by decide) f4, fun _ => rfl, up (by decide) f6, up (by decide) f7, fun h => (f8 (down (by decide) h)).keep (Keep.refl _), up (by decide) f9, up (by decide) f10, up (by decide) f11, up (by decide) f12, up (by decide) f13, fun h => (f14 (down (by decide) h)).keep (Keep.refl _), up (by decide) f15, up (by decide) f16, up (by decide) f17, up (by decide) f18, up (by decide) f19, up (by decide) f20, up (by decide) f21⟩
                · -- 6: val
                  rintro bb aa wz hn hd ⟨v10, v149, v150, v151, v152, v153, v154, v155, v156, v157, v158, v159, v160, v161, v162, v163, v164, v165, v166, v167, v168, v169, rfl, G, f0, f1, f2, f3, f4, f5, f6, f7, f8, f9, f10, f11, f12, f13, f14, f15, f16, f17, f18, f19, f20, f21⟩ K hK
                  have b3 : bb 3 := hd ⟨3, .guard⟩ (by simp) (by rfl)
                  obtain rfl := f3 b3
                  have HK := Lib.hid hK
                  clear hK
                  go_simp
                  exact HK.out _ _ ⟨_, _, _, _, _, _, _, _, _, _, _, _, _, _, _, _, _, _, _, _, _, _, rfl, G, up (by decide) f0, up (by decide) f1, up (by decide) f2, fun _ => rfl, up (by decide) f4, up (by decide) f5, fun _ => rfl, up (by decide) f7, fun h => (f8 (down (by decide) h)).keep (Keep.refl _), up (by decide) f9, up (by decide) f10, up (by decide) f11, up (by decide) f12, up (by decide) f13, fun h => (f14 (down (by decide) h)).keep (Keep.refl _), up (by decide) f15, up (by decide) f16, up (by decide) f17, up (by decide) f18, up (by decide) f19, up (by decide) f20, up (by decide) f21⟩
                · -- 7: val
                  rintro bb aa wz hn hd ⟨v10, v149, v150, v151, v152, v153, v154, v155, v156, v157, v158, v159, v160, v161, v162, v163, v164, v165, v166, v167, v168, v169, rfl, G, f0, f1, f2, f3, f4, f5, f6, f7, f8, f9, f10, f11, f12, f13, f14, f15, f16, f17, f18, f19, f20, f21⟩ K hK
                  have b6 : bb 6 := hd ⟨6, .data⟩ (by simp) (by rfl)
                  obtain rfl := f6 b6
                  have b3 : bb 3 := hd ⟨3, .guard⟩ (by simp) (by rfl)
                  obtain rfl := f3 b3
                  have HK := Lib.hid hK
                  clear hK
                  go_simp
                  exact HK.out _ _ ⟨_, _, _, _, _, _, _, _, _, _, _, _, _, _, _, _, _, _, _, _, _, _, rfl, G, up (by decide) f0, up (by decide) f1, up (by decide) f2, fun _ => rfl, up (by decide) f4, up (by decide) f5, fun _ => rfl, fun _ => rfl, fun h => (f8 (down (by decide) h)).keep (Keep.refl _), up (by decide) f9, up (by decide) f10, up (by decide) f11, up (by decide) f12, up (by decide) f13, fun h => (f14 (down (by decide) h)).keep (Keep.refl _), up (by decide) f15, up (by decide) f16, up (by decide) f17, up (by decide) f18, up (by decide) f19, up (by decide) f20, up (by decide) f21⟩
                · -- 8: row
                  rintro bb aa wz hn hd ⟨v10, v149, v150, v151, v152, v153, v154, v155, v156, v157, v158, v159, v160, v161, v162, v163, v164, v165, v166, v167, v168, v169, rfl, G, f0, f1, f2, f3, f4, f5, f6, f7, f8, f9, f10, f11, f12, f13, f14, f15, f16, f17, f18, f19, f20, f21⟩ K hK
                  have b4 : bb 4 := hd ⟨4, .data⟩ (by simp) (by rfl)
                  obtain rfl := f4 b4
                  have b5 : bb 5 := hd ⟨5, .data⟩ (by simp) (by rfl)
                  obtain rfl := f5 b5
                  have b7 : bb 7 := hd ⟨7, .data⟩ (by simp) (by rfl)
                  obtain rfl := f7 b7
                  have b3 : bb 3 := hd ⟨3, .guard⟩ (by simp) (by rfl)
                  obtain rfl := f3 b3
                  have HK := Lib.hid hK
                  clear hK
                  go_wp2_with (go_at_call 19; ((with_reducible refine (bent_is _ l x y p lb _ (Lib.hid (RT.out.keep G)) (by omega) hp HBL).mono ?_); rintro _ w1 ⟨v1, rfl, hr, hk, hf⟩))
                  exact HK.out _ _ ⟨_, _, _, _, _, _, _, _, _, _, _, _, _, _, _, _, _, _, _, _, _, _, rfl, (G.trans hk), up (by decide) f0, up (by decide) f1, up (by decide) f2, fun _ => rfl, fun _ => rfl, fun _ => rfl, up (by decide) f6, fun _ => rfl, fun _ => hr, up (by decide) f9, up (by decide) f10, up (by decide) f11, up (by decide) f12, up (by decide) f13, fun h => (f14 (down (by decide) h)).keep hk, up (by decide) f15, up (by decide) f16, up (by decide) f17, up (by decide) f18, up (by decide) f19, up (by decide) f20, up (by decide) f21⟩
                · -- 9: val
                  rintro bb aa wz hn hd ⟨v10, v149, v150, v151, v152, v153, v154, v155, v156, v157, v158, v159, v160, v161, v162, v163, v164, v165, v166, v167, v168, v169, rfl, G, f0, f1, f2, f3, f4, f5, f6, f7, f8, f9, f10, f11, f12, f13, f14, f15, f16, f17, f18, f19, f20, f21⟩ K hK
                  have b8 : bb 8 := hd ⟨8, .data⟩ (by simp) (by rfl)
                  have b3 : bb 3 := hd ⟨3, .guard⟩ (by simp) (by rfl)
                  obtain rfl := f3 b3
                  have HK := Lib.hid hK
                  clear hK
                  go_wp2_with (go_at_call 18; ((with_reducible refine (checkTrace_is _ lb F _ (Lib.hid (f8 b8)) HTB).mono ?_); rintro _ w1 ⟨rfl, hk⟩))
                  exact HK.out _ _ ⟨_, _, _, _, _, _, _, _, _, _, _, _, _, _, _, _, _, _, _, _, _, _, rfl, (G.trans hk), up (by decide) f0, up (by decide) f1, up (by decide) f2, fun _ => rfl, up (by decide) f4, up (by decide) f5, up (by decide) f6, up (by decide) f7, fun h => (f8 (down (by decide) h)).keep hk, fun _ => rfl, up (by decide) f10, up (by decide) f11, up (by decide) f12, up (by decide) f13, fun h => (f14 (down (by decide) h)).keep hk, up (by decide) f15, up (by decide) f16, up (by decide) f17, up (by decide) f18, up (by decide) f19, up (by decide) f20, up (by decide) f21⟩
                · -- 10: val
                  rintro bb aa wz hn hd ⟨v10, v149, v150, v151, v152, v153, v154, v155, v156, v157, v158, v159, v160, v161, v162, v163, v164, v165, v166, v167, v168, v169, rfl, G, f0, f1, f2, f3, f4, f5, f6, f7, f8, f9, f10, f11, f12, f13, f14, f15, f16, f17, f18, f19, f20, f21⟩ K hK
                  have b3 : bb 3 := hd ⟨3, .guard⟩ (by simp) (by rfl)
                  obtain rfl := f3 b3
                  have HK := Lib.hid hK
                  clear hK
                  go_simp
                  exact HK.out _ _ ⟨_, _, _, _, _, _, _, _, _, _, _, _, _, _, _, _, _, _, _, _, _, _, rfl, G, up (by decide) f0, up (by decide) f1, up (by decide) f2, fun _ => rfl, up (by decide) f4, up (by decide) f5, up (by decide) f6, up (by decide) f7, fun h => (f8 (down (by decide) h)).keep (Keep.refl _), up (by decide) f9, fun _ => rfl, up (by decide) f11, up (by decide) f12, up (by decide) f13, fun h => (f14 (down (by decide) h)).keep (Keep.refl _), up (by decide) f15, up (by decide) f16, up (by decide) f17, up (by decide) f18, up (by decide) f19, up (by decide) f20, up (by decide) f21⟩
                · -- 11: val
                  rintro bb aa wz hn hd ⟨v10, v149, v150, v151, v152, v153, v154, v155, v156, v157, v158, v159, v160, v161, v162, v163, v164, v165, v166, v167, v168, v169, rfl, G, f0, f1, f2, f3, f4, f5, f6, f7, f8, f9, f10, f11, f12, f13, f14, f15, f16, f17, f18, f19, f20, f21⟩ K hK
                  have b3 : bb 3 := hd ⟨3, .guard⟩ (by simp) (by rfl)
                  obtain rfl := f3 b3
                  have k0 := G.some e0
                  have k1 := G.some e1
                  have HK := Lib.hid hK
                  clear hK
                  go_simp
                  exact HK.out _ _ ⟨_, _, _, _, _, _, _, _, _, _, _, _, _, _, _, _, _, _, _, _, _, _, rfl, G, up (by decide) f0, up (by decide) f1, up (by decide) f2, fun _ => rfl, up (by decide) f4, up (by decide) f5, up (by decide) f6, up (by decide) f7, fun h => (f8 (down (by decide) h)).keep (Keep.refl _), up (by decide) f9, up (by decide) f10, fun _ => rfl, up (by decide) f12, up (by decide) f13, fun h => (f14 (down (by decide) h)).keep (Keep.refl _), up (by decide) f15, up (by decide) f16, up (by decide) f17, up (by decide) f18, up (by decide) f19, up (by decide) f20, up (by decide) f21⟩
                · -- 12: val
                  rintro bb aa wz hn hd ⟨v10, v149, v150, v151, v152, v153, v154, v155, v156, v157, v158, v159, v160, v161, v162, v163, v164, v165, v166, v167, v168, v169, rfl, G, f0, f1, f2, f3, f4, f5, f6, f7, f8, f9, f10, f11, f12, f13, f14, f15, f16, f17, f18, f19, f20, f21⟩ K hK
                  have b3 : bb 3 := hd ⟨3, .guard⟩ (by simp) (by rfl)
                  obtain rfl := f3 b3
                  have HK := Lib.hid hK
                  clear hK
                  go_simp
                  exact HK.out _ _ ⟨_, _, _, _, _, _, _, _, _, _, _, _, _, _, _, _, _, _, _, _, _, _, rfl, G, up (by decide) f0, up (by decide) f1, up (by decide) f2, fun _ => rfl, up (by decide) f4, up (by decide) f5, up (by decide) f6, up (by decide) f7, fun h => (f8 (down (by decide) h)).keep (Keep.refl _), up (by decide) f9, up (by decide) f10, up (by decide) f11, fun _ => rfl, up (by decide) f13, fun h => (f14 (down (by decide) h)).keep (Keep.refl _), up (by decide) f15, up (by decide) f16, up (by decide) f17, up (by decide) f18, up (by decide) f19, up (by decide) f20, up (by decide) f21⟩
                · -- 13: val
                  rintro bb aa wz hn hd ⟨v10, v149, v150, v151, v152, v153, v154, v155, v156, v157, v158, v159, v160, v161, v162, v163, v164, v165, v166, v167, v168, v169, rfl, G, f0, f1, f2, f3, f4, f5, f6, f7, f8, f9, f10, f11, f12, f13, f14, f15, f16, f17, f18, f19, f20, f21⟩ K hK
                  have b12 : bb 12 := hd ⟨12, .data⟩ (by simp) (by rfl)
                  obtain rfl := f12 b12
                  have b3 : bb 3 := hd ⟨3, .guard⟩ (by simp) (by rfl)
                  obtain rfl := f3 b3
                  have HK := Lib.hid hK
                  clear hK
                  go_simp
                  exact HK.out _ _ ⟨_, _, _, _, _, _, _, _, _, _, _, _, _, _, _, _, _, _, _, _, _, _, rfl, G, up (by decide) f0, up (by decide) f1, up (by decide) f2, fun _ => rfl, up (by decide) f4, up (by decide) f5, up (by decide) f6, up (by decide) f7, fun h => (f8 (down (by decide) h)).keep (Keep.refl _), up (by decide) f9, up (by decide) f10, up (by decide) f11, fun _ => rfl, fun _ => rfl, fun h => (f14 (down (by decide) h)).keep (Keep.refl _), up (by decide) f15, up (by decide) f16, up (by decide) f17, up (by decide) f18, up (by decide) f19, up (by decide) f20, up (by decide) f21⟩
                · -- 14: row
                  rintro bb aa wz hn hd ⟨v10, v149, v150, v151, v152, v153, v154, v155, v156, v157, v158, v159, v160, v161, v162, v163, v164, v165, v166, v167, v168, v169, rfl, G, f0, f1, f2, f3, f4, f5, f6, f7, f8, f9, f10, f11, f12, f13, f14, f15, f16, f17, f18, f19, f20, f21⟩ K hK
                  have b10 : bb 10 := hd ⟨10, .data⟩ (by simp) (by rfl)
                  obtain rfl := f10 b10
                  have b11 : bb 11 := hd ⟨11, .data⟩ (by simp) (by rfl)
                  obtain rfl := f11 b11
                  have b13 : bb 13 := hd ⟨13, .data⟩ (by simp) (by rfl)
                  obtain rfl := f13 b13
                  have b3 : bb 3 := hd ⟨3, .guard⟩ (by simp) (by rfl)
                  obtain rfl := f3 b3
                  have HK := Lib.hid hK
                  clear hK
                  go_wp2_with (go_at_call 19; ((with_reducible refine (bent_is _ l x y p lb _ (Lib.hid (RT.out.keep G)) (by omega) hp HBL).mono ?_); rintro _ w1 ⟨v1, rfl, hr, hk, hf⟩))
                  exact HK.out _ _ ⟨_, _, _, _, _, _, _, _, _, _, _, _, _, _, _, _, _, _, _, _, _, _, rfl, (G.trans hk), up (by decide) f0, up (by decide) f1, up (by decide) f2, fun _ => rfl, up (by decide) f4, up (by decide) f5, up (by decide) f6, up (by decide) f7, fun h => (f8 (down (by decide) h)).keep hk, up (by decide) f9, fun _ => rfl, fun _ => rfl, up (by decide) f12, fun _ => rfl, fun _ => hr, up (by decide) f15, up (by decide) f16, up (by decide) f17, up (by decide) f18, up (by decide) f19, up (by decide) f20, up (by decide) f21⟩
                · -- 15: val
                  rintro bb aa wz hn hd ⟨v10, v149, v150, v151, v152, v153, v154, v155, v156, v157, v158, v159, v160, v161, v162, v163, v164, v165, v166, v167, v168, v169, rfl, G, f0, f1, f2, f3, f4, f5, f6, f7, f8, f9, f10, f11, f12, f13, f14, f15, f16, f17, f18, f19, f20, f21⟩ K hK
                  have b14 : bb 14 := hd ⟨14, .data⟩ (by simp) (by rfl)
                  have b3 : bb 3 := hd ⟨3, .guard⟩ (by simp) (by rfl)
                  obtain rfl := f3 b3
                  have HK := Lib.hid hK
                  clear hK
                  go_wp2_with (go_at_call 20; ((with_reducible refine (refCheckTrace_is _ lb F _ (Lib.hid (f14 b14)) HTB).mono ?_); rintro _ w1 ⟨rfl, hk⟩))
                  exact HK.out _ _ ⟨_, _, _, _, _, _, _, _, _, _, _, _, _, _, _, _, _, _, _, _, _, _, rfl, (G.trans hk), up (by decide) f0, up (by decide) f1, up (by decide) f2, fun _ => rfl, up (by decide) f4, up (by decide) f5, up (by decide) f6, up (by decide) f7, fun h => (f8 (down (by decide) h)).keep hk, up (by decide) f9, up (by decide) f10, up (by decide) f11, up (by decide) f12, up (by decide) f13, fun h => (f14 (down (by decide) h)).keep hk, fun _ => rfl, up (by decide) f16, up (by decide) f17, up (by decide) f18, up (by decide) f19, up (by decide) f20, up (by decide) f21⟩
                · -- 16: val
                  rintro bb aa wz hn hd ⟨v10, v149, v150, v151, v152, v153, v154, v155, v156, v157, v158, v159, v160, v161, v162, v163, v164, v165, v166, v167, v168, v169, rfl, G, f0, f1, f2, f3, f4, f5, f6, f7, f8, f9, f10, f11, f12, f13, f14, f15, f16, f17, f18, f19, f20, f21⟩ K hK
                  have b9 : bb 9 := hd ⟨9, .data⟩ (by simp) (by rfl)
                  obtain rfl := f9 b9
                  have b15 : bb 15 := hd ⟨15, .data⟩ (by simp) (by rfl)
                  obtain rfl := f15 b15
                  have b3 : bb 3 := hd ⟨3, .guard⟩ (by simp) (by rfl)
                  obtain rfl := f3 b3
                  have HK := Lib.hid hK
                  clear hK
                  go_simp
                  exact HK.out _ _ ⟨_, _, _, _, _, _, _, _, _, _, _, _, _, _, _, _, _, _, _, _, _, _, rfl, G, up (by decide) f0, up (by decide) f1, up (by decide) f2, fun _ => rfl, up (by decide) f4, up (by decide) f5, up (by decide) f6, up (by decide) f7, fun h => (f8 (down (by decide) h)).keep (Keep.refl _), fun _ => rfl, up (by decide) f10, up (by decide) f11, up (by decide) f12, up (by decide) f13, fun h => (f14 (down (by decide) h)).keep (Keep.refl _), fun _ => rfl, fun _ => rfl, up (by decide) f17, up (by decide) f18, up (by decide) f19, up (by decide) f20, up (by decide) f21⟩
                · -- 17: val
                  rintro bb aa wz hn hd ⟨v10, v149, v150, v151, v152, v153, v154, v155, v156, v157, v158, v159, v160, v161, v162, v163, v164, v165, v166, v167, v168, v169, rfl, G, f0, f1, f2, f3, f4, f5, f6, f7, f8, f9, f10, f11, f12, f13, f14, f15, f16, f17, f18, f19, f20, f21⟩ K hK
                  have b3 : bb 3 := hd ⟨3, .data⟩ (by simp) (by rfl)
                  obtain rfl := f3 b3
                  have b16 : bb 16 := hd ⟨16, .data⟩ (by simp) (by rfl)
                  obtain rfl := f16 b16
                  have HK := Lib.hid hK
                  clear hK
                  go_simp
                  exact HK.out _ _ ⟨_, _, _, _, _, _, _, _, _, _, _, _, _, _, _, _, _, _, _, _, _, _, rfl, G, up (by decide) f0, up (by decide) f1, up (by decide) f2, fun _ => rfl, up (by decide) f4, up (by decide) f5, up (by decide) f6, up (by decide) f7, fun h => (f8 (down (by decide) h)).keep (Keep.refl _), up (by decide) f9, up (by decide) f10, up (by decide) f11, up (by decide) f12, up (by decide) f13, fun h => (f14 (down (by decide) h)).keep (Keep.refl _), up (by decide) f15, fun _ => rfl, fun _ => rfl, up (by decide) f18, up (by decide) f19, up (by decide) f20, up (by decide) f21⟩
                · -- 18: val
                  rintro bb aa wz hn hd ⟨v10, v149, v150, v151, v152, v153, v154, v155, v156, v157, v158, v159, v160, v161, v162, v163, v164, v165, v166, v167, v168, v169, rfl, G, f0, f1, f2, f3, f4, f5, f6, f7, f8, f9, f10, f11, f12, f13, f14, f15, f16, f17, f18, f19, f20, f21⟩ K hK
                  have b17 : bb 17 := hd ⟨17, .data⟩ (by simp) (by rfl)
                  obtain rfl := f17 b17
                  have HK := Lib.hid hK
                  clear hK
                  go_simp
                  exact HK.out _ _ ⟨_, _, _, _, _, _, _, _, _, _, _, _, _, _, _, _, _, _, _, _, _, _, rfl, G, up (by decide) f0, up (by decide) f1, up (by decide) f2, up (by decide) f3, up (by decide) f4, up (by decide) f5, up (by decide) f6, up (by decide) f7, fun h => (f8 (down (by decide) h)).keep (Keep.refl _), up (by decide) f9, up (by decide) f10, up (by decide) f11, up (by decide) f12, up (by decide) f13, fun h => (f14 (down (by decide) h)).keep (Keep.refl _), up (by decide) f15, up (by decide) f16, fun _ => rfl, fun _ => rfl, up (by decide) f19, up (by decide) f20, up (by decide) f21⟩
                · -- 19: val
                  rintro bb aa wz hn hd ⟨v10, v149, v150, v151, v152, v153, v154, v155, v156, v157, v158, v159, v160, v161, v162, v163, v164, v165, v166, v167, v168, v169, rfl, G, f0, f1, f2, f3, f4, f5, f6, f7, f8, f9, f10, f11, f12, f13, f14, f15, f16, f17, f18, f19, f20, f21⟩ K hK
                  have b18 : bb 18 := hd ⟨18, .guard⟩ (by simp) (by rfl)
                  obtain rfl := f18 b18
                  have HK := Lib.hid hK
                  clear hK
                  go_wp2_with (go_at_call 21; ((with_reducible refine (works_yes _).mono ?_); rintro _ w1 ⟨rfl, hk⟩))
                  exact HK.out _ _ ⟨_, _, _, _, _, _, _, _, _, _, _, _, _, _, _, _, _, _, _, _, _, _, rfl, (G.trans hk), up (by decide) f0, up (by decide) f1, up (by decide) f2, up (by decide) f3, up (by decide) f4, up (by decide) f5, up (by decide) f6, up (by decide) f7, fun h => (f8 (down (by decide) h)).keep hk, up (by decide) f9, up (by decide) f10, up (by decide) f11, up (by decide) f12, up (by decide) f13, fun h => (f14 (down (by decide) h)).keep hk, up (by decide) f15, up (by decide) f16, up (by decide) f17, fun _ => rfl, fun _ => rfl, up (by decide) f20, up (by decide) f21⟩
                · -- 20: val
                  rintro bb aa wz hn hd ⟨v10, v149, v150, v151, v152, v153, v154, v155, v156, v157, v158, v159, v160, v161, v162, v163, v164, v165, v166, v167, v168, v169, rfl, G, f0, f1, f2, f3, f4, f5, f6, f7, f8, f9, f10, f11, f12, f13, f14, f15, f16, f17, f18, f19, f20, f21⟩ K hK
                  have b18 : bb 18 := hd ⟨18, .data⟩ (by simp) (by rfl)
                  obtain rfl := f18 b18
                  have b19 : bb 19 := hd ⟨19, .data⟩ (by simp) (by rfl)
                  obtain rfl := f19 b19
                  have HK := Lib.hid hK
                  clear hK
                  go_simp
                  exact HK.out _ _ ⟨_, _, _, _, _, _, _, _, _, _, _, _, _, _, _, _, _, _, _, _, _, _, rfl, G, up (by decide) f0, up (by decide) f1, up (by decide) f2, up (by decide) f3, up (by decide) f4, up (by decide) f5, up (by decide) f6, up (by decide) f7, fun h => (f8 (down (by decide) h)).keep (Keep.refl _), up (by decide) f9, up (by decide) f10, up (by decide) f11, up (by decide) f12, up (by decide) f13, fun h => (f14 (down (by decide) h)).keep (Keep.refl _), up (by decide) f15, up (by decide) f16, up (by decide) f17, fun _ => rfl, fun _ => rfl, fun _ => rfl, up (by decide) f21⟩
                · -- 21: val
                  rintro bb aa wz hn hd ⟨v10, v149, v150, v151, v152, v153, v154, v155, v156, v157, v158, v159, v160, v161, v162, v163, v164, v165, v166, v167, v168, v169, rfl, G, f0, f1, f2, f3, f4, f5, f6, f7, f8, f9, f10, f11, f12, f13, f14, f15, f16, f17, f18, f19, f20, f21⟩ K hK
                  have b20 : bb 20 := hd ⟨20, .data⟩ (by simp) (by rfl)
                  obtain rfl := f20 b20
                  have HK := Lib.hid hK
                  clear hK
                  go_simp
                  exact HK.out _ _ ⟨_, _, _, _, _, _, _, _, _, _, _, _, _, _, _, _, _, _, _, _, _, _, rfl, G, up (by decide) f0, up (by decide) f1, up (by decide) f2, up (by decide) f3, up (by decide) f4, up (by decide) f5, up (by decide) f6, up (by decide) f7, fun h => (f8 (down (by decide) h)).keep (Keep.refl _), up (by decide) f9, up (by decide) f10, up (by decide) f11, up (by decide) f12, up (by decide) f13, fun h => (f14 (down (by decide) h)).keep (Keep.refl _), up (by decide) f15, up (by decide) f16, up (by decide) f17, up (by decide) f18, up (by decide) f19, fun _ => rfl, fun _ => rfl⟩

theorem lawChecks_any (b0 b1 x y t : Int) (v D : Value) (l0 : List (Int × Int)) (B R : Int) (gs ss : List Int) (w : World) (hv : RowAt w v l0) (h : DraftAt w D B R gs ss) :
    Calls Try.prog 3 #[.agg #[.int .i64 b0, .int .i64 b1], D, v, .agg #[.int .i64 x, .int .i64 y], .int .i64 t] w (Res (.bool true) w) := by
  have h' := h
  obtain ⟨⟨g, s, rfl, h1, h2⟩, h3, h4⟩ := h
  obtain ⟨ga, gl, gc, rfl, -⟩ := h1.form
  obtain ⟨sa, sl, sc, rfl, -⟩ := h2.form
  obtain ⟨a0, n, cap, rfl⟩ := hv.slice
  have hu : 0 ≤ IntKind.u64.wrap t := wrap_u64_nonneg t
  have hp : 0 ≤ IntKind.u8.wrap t ∧ IntKind.u8.wrap t ≤ 255 := by unfold IntKind.wrap; simp [IntKind.signed, IntKind.bits]; omega
  refine checks_walk B R ga sa gl gc sl sc gs ss b0 b1 x y t (IntKind.u8.wrap t) (IntKind.u64.wrap t % 1099511627776) (IntKind.u64.wrap t % 99) a0 n cap (min n 14) l0 w (Lib.hid h') _ _ (Lib.hid rfl) (Lib.hid rfl) _ (Lib.hid rfl) (Lib.hid (okT_traceD h1.1 h2.1 (by omega))) (Lib.hid (okBk_of B R)) (by rw [traceD_len]; omega) (Lib.hid hv) (by omega) (by omega) (by omega) (Int.tmod_eq_emod_of_nonneg hu) rfl (by omega) (Int.tmod_eq_emod_of_nonneg hu) rfl (by omega) rfl hp

end Go.Proofs.Ytigogelabokpbaa
