/- CurveJoins' walk: a bucket's delay over two services in a row. -/
import Derived.Test.YtmamadgikjkjdaaLawTight
namespace Go.Proofs.Ytmamadgikjkjdaa
open Go Go.RowKit

theorem ceilD_anti {n c d : Int} (hc : 1 ≤ c) (h : c ≤ d) (hn : 0 ≤ n) : ceilD n d ≤ ceilD n c := by
  have h1 := le_ceilD (n := n) (d := c) (by omega)
  have h0 := ceilD_nonneg (n := n) (d := c) (by omega) hn
  refine ceilD_le (by omega) (Int.le_trans h1 (Int.mul_le_mul_of_nonneg_left h h0))
theorem joinR_yes {R1 L1 R2 L2 : Int} (h1 : okSv R1 L1 = true) (h2 : okSv R2 L2 = true) (h : L1 + L2 ≤ 268435456) : joinR R1 L1 R2 L2 = ((min R1 R2, L1 + L2), 0) := by
  unfold joinR
  rw [h1, h2]
  simp [h]

set_option maxRecDepth 100000 in
set_option maxHeartbeats 8000000 in
theorem joins_walk (B R : Int) (ga sa : Option Addr) (gl gc sl sc : Nat) (gs ss : List Int) (m0 m1 L1 L2 : Int) (w : World) (hD : Hid (DraftAt w (.agg #[.int .u32 B, .int .u32 R, .slice ga gl gc, .slice sa sl sc]) B R gs ss)) (X Y : Int) (HX : Hid (bOf B = X)) (HY : Hid (rOf R = Y)) (Hb : Hid (okBk X Y = true)) (hm0 : 0 ≤ m0 ∧ m0 ≤ 4294967295) (hm1 : 0 ≤ m1 ∧ m1 ≤ 4294967295) (hL1 : 0 ≤ L1 ∧ L1 ≤ 65535) (hL2 : 0 ≤ L2 ∧ L2 ≤ 65535) :
    Calls Try.prog 13 #[.agg #[.int .u32 B, .int .u32 R, .slice ga gl gc, .slice sa sl sc], .agg #[.int .u32 m0, .int .u32 m1], .agg #[.int .u16 L1, .int .u16 L2]] w (Res (.bool true) w) := by
  have bk := okBk_iff.1 Hb.out
  have KK := Lib.hid (((Keep.alloc (Keep.refl w) (.cells #[.int .u32 B, .int .u32 R, .slice ga gl gc, .slice sa sl sc] 25)).alloc (.cells #[.int .u32 m0, .int .u32 m1] 64)).alloc (.cells #[.int .u16 L1, .int .u16 L2] 85))
  have HD := Lib.hid (hD.out.keep KK.out)
  clear hD
  have d0 : (((w.alloc (.cells #[.int .u32 B, .int .u32 R, .slice ga gl gc, .slice sa sl sc] 25)).alloc (.cells #[.int .u32 m0, .int .u32 m1] 64)).alloc (.cells #[.int .u16 L1, .int .u16 L2] 85)).cell? ⟨w.heap.size, 0, none⟩ = some (.int .u32 B) := by simp [go_sem]
  have d1 : (((w.alloc (.cells #[.int .u32 B, .int .u32 R, .slice ga gl gc, .slice sa sl sc] 25)).alloc (.cells #[.int .u32 m0, .int .u32 m1] 64)).alloc (.cells #[.int .u16 L1, .int .u16 L2] 85)).cell? ⟨w.heap.size, 1, none⟩ = some (.int .u32 R) := by simp [go_sem]
  have d2 : (((w.alloc (.cells #[.int .u32 B, .int .u32 R, .slice ga gl gc, .slice sa sl sc] 25)).alloc (.cells #[.int .u32 m0, .int .u32 m1] 64)).alloc (.cells #[.int .u16 L1, .int .u16 L2] 85)).cell? ⟨w.heap.size, 2, none⟩ = some (.slice ga gl gc) := by simp [go_sem]
  have d3 : (((w.alloc (.cells #[.int .u32 B, .int .u32 R, .slice ga gl gc, .slice sa sl sc] 25)).alloc (.cells #[.int .u32 m0, .int .u32 m1] 64)).alloc (.cells #[.int .u16 L1, .int .u16 L2] 85)).cell? ⟨w.heap.size, 3, none⟩ = some (.slice sa sl sc) := by simp [go_sem]
  have a0 : (((w.alloc (.cells #[.int .u32 B, .int .u32 R, .slice ga gl gc, .slice sa sl sc] 25)).alloc (.cells #[.int .u32 m0, .int .u32 m1] 64)).alloc (.cells #[.int .u16 L1, .int .u16 L2] 85)).cell? ⟨w.heap.size + 1, 0, none⟩ = some (.int .u32 m0) := by simp [go_sem]
  have a1 : (((w.alloc (.cells #[.int .u32 B, .int .u32 R, .slice ga gl gc, .slice sa sl sc] 25)).alloc (.cells #[.int .u32 m0, .int .u32 m1] 64)).alloc (.cells #[.int .u16 L1, .int .u16 L2] 85)).cell? ⟨w.heap.size + 1, 1, none⟩ = some (.int .u32 m1) := by simp [go_sem]
  have l0 : (((w.alloc (.cells #[.int .u32 B, .int .u32 R, .slice ga gl gc, .slice sa sl sc] 25)).alloc (.cells #[.int .u32 m0, .int .u32 m1] 64)).alloc (.cells #[.int .u16 L1, .int .u16 L2] 85)).cell? ⟨w.heap.size + 1 + 1, 0, none⟩ = some (.int .u16 L1) := by simp [go_sem]
  have l1 : (((w.alloc (.cells #[.int .u32 B, .int .u32 R, .slice ga gl gc, .slice sa sl sc] 25)).alloc (.cells #[.int .u32 m0, .int .u32 m1] 64)).alloc (.cells #[.int .u16 L1, .int .u16 L2] 85)).cell? ⟨w.heap.size + 1 + 1, 1, none⟩ = some (.int .u16 L2) := by simp [go_sem]
  obtain ⟨S1, hS1⟩ : ∃ S, min 2097152 (Y + m0 % 262144) = S := ⟨_, rfl⟩
  obtain ⟨S2, hS2⟩ : ∃ S, min 2097152 (Y + m1 % 262144) = S := ⟨_, rfl⟩
  have bS1 : 1 ≤ S1 ∧ S1 ≤ 2097152 ∧ Y ≤ S1 := by omega
  have bS2 : 1 ≤ S2 ∧ S2 ≤ 2097152 ∧ Y ≤ S2 := by omega
  have V1 := okSv_of (S := S1) (L := L1) (by omega)
  have V2 := okSv_of (S := S2) (L := L2) (by omega)
  obtain ⟨U, hU⟩ : ∃ U, min S1 S2 = U := ⟨_, rfl⟩
  have hU' : min S2 S1 = U := by omega
  have bU : 1 ≤ U ∧ U ≤ 2097152 ∧ Y ≤ U := by omega
  obtain ⟨LU, hLU⟩ : ∃ LU, L1 + L2 = LU := ⟨_, rfl⟩
  have V3 := okSv_of (S := U) (L := LU) (by omega)
  have HJ1 : Hid (joinR S1 L1 S2 L2 = ((U, LU), 0)) := Lib.hid (by rw [joinR_yes V1 V2 (by omega), hU, hLU])
  have HJ2 : Hid (joinR S2 L2 S1 L1 = ((U, LU), 0)) := Lib.hid (by rw [joinR_yes V2 V1 (by omega), hU', Int.add_comm, hLU])
  have x1 := slowD_le (B := X) bS1.1 bk.2.1
  have x2 := slowD_le (B := X) bS2.1 bk.2.1
  have y1 := ceilD_nonneg (n := X * 1048576) (d := S1) (by omega) (by omega)
  have y2 := ceilD_nonneg (n := X * 1048576) (d := S2) (by omega) (by omega)
  have hc : (ceilD (X * 1048576) U = ceilD (X * 1048576) S1 ∧ ceilD (X * 1048576) S2 ≤ ceilD (X * 1048576) S1) ∨ (ceilD (X * 1048576) U = ceilD (X * 1048576) S2 ∧ ceilD (X * 1048576) S1 ≤ ceilD (X * 1048576) S2) := by
    rcases Int.le_total S1 S2 with h | h
    · left; rw [show U = S1 by omega]; exact ⟨rfl, ceilD_anti bS1.1 h (by omega)⟩
    · right; rw [show U = S2 by omega]; exact ⟨rfl, ceilD_anti bS2.1 h (by omega)⟩
  obtain ⟨x, hx⟩ : ∃ x, L1 + ceilD (X * 1048576) S1 = x := ⟨_, rfl⟩
  obtain ⟨y, hy⟩ : ∃ y, L2 + ceilD (X * 1048576) S2 = y := ⟨_, rfl⟩
  obtain ⟨z, hz⟩ : ∃ z, LU + ceilD (X * 1048576) U = z := ⟨_, rfl⟩
  have H1 : Hid (delayR [(X, Y)] S1 L1 = (x, 0)) := Lib.hid (by rw [delay_one Hb.out V1 bS1.2.2, hx])
  have H2 : Hid (delayR [(X, Y)] S2 L2 = (y, 0)) := Lib.hid (by rw [delay_one Hb.out V2 bS2.2.2, hy])
  have H3 : Hid (delayR [(X, Y)] U LU = (z, 0)) := Lib.hid (by rw [delay_one Hb.out V3 bU.2.2, hz])
  have bx : 0 ≤ x ∧ x ≤ 1099511693311 := by omega
  have by' : 0 ≤ y ∧ y ≤ 1099511693311 := by omega
  have c1 : z ≤ x + y := by omega
  have c2 : x ≤ z := by omega
  have c3 : y ≤ z := by omega
  have eU : (U == U) = true := by simp
  have eL : (LU == LU) = true := by simp
  clear hx hy hz hc hU hU' hLU V1 V2 V3 x1 x2 y1 y2
  go_enter Try.func13, Try.ntmps13
  go_wp2_with fail
  go_at_call 32
  refine (works4_yes _).mono ?_
  rintro _ w1 ⟨rfl, k1⟩
  have d0 := k1.some (by first | exact d0 | exact cell_alloc_old _ d0 | exact cell_alloc_old _ (cell_alloc_old _ d0) | exact cell_alloc_old _ (cell_alloc_old _ (cell_alloc_old _ d0)))
  have d1 := k1.some (by first | exact d1 | exact cell_alloc_old _ d1 | exact cell_alloc_old _ (cell_alloc_old _ d1) | exact cell_alloc_old _ (cell_alloc_old _ (cell_alloc_old _ d1)))
  have d2 := k1.some (by first | exact d2 | exact cell_alloc_old _ d2 | exact cell_alloc_old _ (cell_alloc_old _ d2) | exact cell_alloc_old _ (cell_alloc_old _ (cell_alloc_old _ d2)))
  have d3 := k1.some (by first | exact d3 | exact cell_alloc_old _ d3 | exact cell_alloc_old _ (cell_alloc_old _ d3) | exact cell_alloc_old _ (cell_alloc_old _ (cell_alloc_old _ d3)))
  have a0 := k1.some (by first | exact a0 | exact cell_alloc_old _ a0 | exact cell_alloc_old _ (cell_alloc_old _ a0) | exact cell_alloc_old _ (cell_alloc_old _ (cell_alloc_old _ a0)))
  have a1 := k1.some (by first | exact a1 | exact cell_alloc_old _ a1 | exact cell_alloc_old _ (cell_alloc_old _ a1) | exact cell_alloc_old _ (cell_alloc_old _ (cell_alloc_old _ a1)))
  have l0 := k1.some (by first | exact l0 | exact cell_alloc_old _ l0 | exact cell_alloc_old _ (cell_alloc_old _ l0) | exact cell_alloc_old _ (cell_alloc_old _ (cell_alloc_old _ l0)))
  have l1 := k1.some (by first | exact l1 | exact cell_alloc_old _ l1 | exact cell_alloc_old _ (cell_alloc_old _ l1) | exact cell_alloc_old _ (cell_alloc_old _ (cell_alloc_old _ l1)))
  have HD := Lib.hid (by first | exact HD.out.keep k1 | exact HD.out.keep ((Keep.alloc (Keep.refl _) _).trans k1) | exact HD.out.keep (((Keep.alloc (Keep.refl _) _).alloc _).trans k1) | exact HD.out.keep ((((Keep.alloc (Keep.refl _) _).alloc _).alloc _).trans k1))
  have KK := Lib.hid (by first | exact KK.out.trans k1 | exact (KK.out.alloc _).trans k1 | exact ((KK.out.alloc _).alloc _).trans k1 | exact (((KK.out.alloc _).alloc _).alloc _).trans k1)
  have hd0 := cellBlock d0
  have ha0 := cellBlock a0
  have hl0 := cellBlock l0
  go_wp2_with fail
  go_at_call 16
  refine (draftBucket_is _ B R gs ss _ HD X Y HX HY).mono ?_
  rintro _ w2 ⟨rfl, k2⟩
  have d0 := k2.some (by first | exact d0 | exact cell_alloc_old _ d0 | exact cell_alloc_old _ (cell_alloc_old _ d0) | exact cell_alloc_old _ (cell_alloc_old _ (cell_alloc_old _ d0)))
  have d1 := k2.some (by first | exact d1 | exact cell_alloc_old _ d1 | exact cell_alloc_old _ (cell_alloc_old _ d1) | exact cell_alloc_old _ (cell_alloc_old _ (cell_alloc_old _ d1)))
  have d2 := k2.some (by first | exact d2 | exact cell_alloc_old _ d2 | exact cell_alloc_old _ (cell_alloc_old _ d2) | exact cell_alloc_old _ (cell_alloc_old _ (cell_alloc_old _ d2)))
  have d3 := k2.some (by first | exact d3 | exact cell_alloc_old _ d3 | exact cell_alloc_old _ (cell_alloc_old _ d3) | exact cell_alloc_old _ (cell_alloc_old _ (cell_alloc_old _ d3)))
  have a0 := k2.some (by first | exact a0 | exact cell_alloc_old _ a0 | exact cell_alloc_old _ (cell_alloc_old _ a0) | exact cell_alloc_old _ (cell_alloc_old _ (cell_alloc_old _ a0)))
  have a1 := k2.some (by first | exact a1 | exact cell_alloc_old _ a1 | exact cell_alloc_old _ (cell_alloc_old _ a1) | exact cell_alloc_old _ (cell_alloc_old _ (cell_alloc_old _ a1)))
  have l0 := k2.some (by first | exact l0 | exact cell_alloc_old _ l0 | exact cell_alloc_old _ (cell_alloc_old _ l0) | exact cell_alloc_old _ (cell_alloc_old _ (cell_alloc_old _ l0)))
  have l1 := k2.some (by first | exact l1 | exact cell_alloc_old _ l1 | exact cell_alloc_old _ (cell_alloc_old _ l1) | exact cell_alloc_old _ (cell_alloc_old _ (cell_alloc_old _ l1)))
  have HD := Lib.hid (by first | exact HD.out.keep k2 | exact HD.out.keep ((Keep.alloc (Keep.refl _) _).trans k2) | exact HD.out.keep (((Keep.alloc (Keep.refl _) _).alloc _).trans k2) | exact HD.out.keep ((((Keep.alloc (Keep.refl _) _).alloc _).alloc _).trans k2))
  have KK := Lib.hid (by first | exact KK.out.trans k2 | exact (KK.out.alloc _).trans k2 | exact ((KK.out.alloc _).alloc _).trans k2 | exact (((KK.out.alloc _).alloc _).alloc _).trans k2)
  have hd0 := cellBlock d0
  have ha0 := cellBlock a0
  have hl0 := cellBlock l0
  go_wp2_with fail
  go_at_call 28
  refine (join_is S1 L1 S2 L2 U LU 0 _ HJ1).mono ?_
  rintro _ w3 ⟨rfl, k3⟩
  have b0 : w3.cell? ⟨w2.heap.size, 0, none⟩ = some (.int .i64 X) := k3.some (by first | (simp [go_sem]; done) | exact cell_alloc_old _ (by simp [go_sem]) | exact cell_alloc_old _ (cell_alloc_old _ (by simp [go_sem])))
  have b1 : w3.cell? ⟨w2.heap.size, 1, none⟩ = some (.int .i64 Y) := k3.some (by first | (simp [go_sem]; done) | exact cell_alloc_old _ (by simp [go_sem]) | exact cell_alloc_old _ (cell_alloc_old _ (by simp [go_sem])))
  have s0 : w3.cell? ⟨w2.heap.size + 1, 0, none⟩ = some (.int .i64 S1) := k3.some (by first | (simp [go_sem]; done) | exact cell_alloc_old _ (by simp [go_sem]) | exact cell_alloc_old _ (cell_alloc_old _ (by simp [go_sem])))
  have s1 : w3.cell? ⟨w2.heap.size + 1, 1, none⟩ = some (.int .i64 L1) := k3.some (by first | (simp [go_sem]; done) | exact cell_alloc_old _ (by simp [go_sem]) | exact cell_alloc_old _ (cell_alloc_old _ (by simp [go_sem])))
  have t0 : w3.cell? ⟨w2.heap.size + 1 + 1, 0, none⟩ = some (.int .i64 S2) := k3.some (by first | (simp [go_sem]; done) | exact cell_alloc_old _ (by simp [go_sem]) | exact cell_alloc_old _ (cell_alloc_old _ (by simp [go_sem])))
  have t1 : w3.cell? ⟨w2.heap.size + 1 + 1, 1, none⟩ = some (.int .i64 L2) := k3.some (by first | (simp [go_sem]; done) | exact cell_alloc_old _ (by simp [go_sem]) | exact cell_alloc_old _ (cell_alloc_old _ (by simp [go_sem])))
  have a0 := k3.some (by first | exact a0 | exact cell_alloc_old _ a0 | exact cell_alloc_old _ (cell_alloc_old _ a0) | exact cell_alloc_old _ (cell_alloc_old _ (cell_alloc_old _ a0)))
  have a1 := k3.some (by first | exact a1 | exact cell_alloc_old _ a1 | exact cell_alloc_old _ (cell_alloc_old _ a1) | exact cell_alloc_old _ (cell_alloc_old _ (cell_alloc_old _ a1)))
  have l0 := k3.some (by first | exact l0 | exact cell_alloc_old _ l0 | exact cell_alloc_old _ (cell_alloc_old _ l0) | exact cell_alloc_old _ (cell_alloc_old _ (cell_alloc_old _ l0)))
  have l1 := k3.some (by first | exact l1 | exact cell_alloc_old _ l1 | exact cell_alloc_old _ (cell_alloc_old _ l1) | exact cell_alloc_old _ (cell_alloc_old _ (cell_alloc_old _ l1)))
  have KK := Lib.hid (by first | exact KK.out.trans k3 | exact (KK.out.alloc _).trans k3 | exact ((KK.out.alloc _).alloc _).trans k3 | exact (((KK.out.alloc _).alloc _).alloc _).trans k3)
  have ha0 := cellBlock a0
  have hl0 := cellBlock l0
  have hb0 := cellBlock b0
  have hs0 := cellBlock s0
  have ht0 := cellBlock t0
  go_wp2_with fail
  go_at_call 28
  refine (join_is S2 L2 S1 L1 U LU 0 _ HJ2).mono ?_
  rintro _ w4 ⟨rfl, k4⟩
  have u0 : w4.cell? ⟨w3.heap.size, 0, none⟩ = some (.int .i64 U) := k4.some (by first | (simp [go_sem]; done) | exact cell_alloc_old _ (by simp [go_sem]) | exact cell_alloc_old _ (cell_alloc_old _ (by simp [go_sem])))
  have u1 : w4.cell? ⟨w3.heap.size, 1, none⟩ = some (.int .i64 LU) := k4.some (by first | (simp [go_sem]; done) | exact cell_alloc_old _ (by simp [go_sem]) | exact cell_alloc_old _ (cell_alloc_old _ (by simp [go_sem])))
  have b0 := k4.some (by first | exact b0 | exact cell_alloc_old _ b0 | exact cell_alloc_old _ (cell_alloc_old _ b0) | exact cell_alloc_old _ (cell_alloc_old _ (cell_alloc_old _ b0)))
  have b1 := k4.some (by first | exact b1 | exact cell_alloc_old _ b1 | exact cell_alloc_old _ (cell_alloc_old _ b1) | exact cell_alloc_old _ (cell_alloc_old _ (cell_alloc_old _ b1)))
  have s0 := k4.some (by first | exact s0 | exact cell_alloc_old _ s0 | exact cell_alloc_old _ (cell_alloc_old _ s0) | exact cell_alloc_old _ (cell_alloc_old _ (cell_alloc_old _ s0)))
  have s1 := k4.some (by first | exact s1 | exact cell_alloc_old _ s1 | exact cell_alloc_old _ (cell_alloc_old _ s1) | exact cell_alloc_old _ (cell_alloc_old _ (cell_alloc_old _ s1)))
  have t0 := k4.some (by first | exact t0 | exact cell_alloc_old _ t0 | exact cell_alloc_old _ (cell_alloc_old _ t0) | exact cell_alloc_old _ (cell_alloc_old _ (cell_alloc_old _ t0)))
  have t1 := k4.some (by first | exact t1 | exact cell_alloc_old _ t1 | exact cell_alloc_old _ (cell_alloc_old _ t1) | exact cell_alloc_old _ (cell_alloc_old _ (cell_alloc_old _ t1)))
  have KK := Lib.hid (by first | exact KK.out.trans k4 | exact (KK.out.alloc _).trans k4 | exact ((KK.out.alloc _).alloc _).trans k4 | exact (((KK.out.alloc _).alloc _).alloc _).trans k4)
  have hb0 := cellBlock b0
  have hs0 := cellBlock s0
  have ht0 := cellBlock t0
  have hu0 := cellBlock u0
  go_wp2_with fail
  go_at_call 33
  refine (delay_is _ 1 1 [(X, Y)] S1 L1 x 0 _ (Lib.hid (rowAll _ [(X, Y)] _ _ _ 1 (by simp) rfl rfl (by simp))) H1).mono ?_
  rintro _ w5 ⟨rfl, k5⟩
  have p0 : w5.cell? ⟨w4.heap.size, 0, none⟩ = some (.int .i64 U) := k5.some (by first | (simp [go_sem]; done) | exact cell_alloc_old _ (by simp [go_sem]) | exact cell_alloc_old _ (cell_alloc_old _ (by simp [go_sem])))
  have p1 : w5.cell? ⟨w4.heap.size, 1, none⟩ = some (.int .i64 LU) := k5.some (by first | (simp [go_sem]; done) | exact cell_alloc_old _ (by simp [go_sem]) | exact cell_alloc_old _ (cell_alloc_old _ (by simp [go_sem])))
  have b0 := k5.some (by first | exact b0 | exact cell_alloc_old _ b0 | exact cell_alloc_old _ (cell_alloc_old _ b0) | exact cell_alloc_old _ (cell_alloc_old _ (cell_alloc_old _ b0)))
  have b1 := k5.some (by first | exact b1 | exact cell_alloc_old _ b1 | exact cell_alloc_old _ (cell_alloc_old _ b1) | exact cell_alloc_old _ (cell_alloc_old _ (cell_alloc_old _ b1)))
  have s0 := k5.some (by first | exact s0 | exact cell_alloc_old _ s0 | exact cell_alloc_old _ (cell_alloc_old _ s0) | exact cell_alloc_old _ (cell_alloc_old _ (cell_alloc_old _ s0)))
  have s1 := k5.some (by first | exact s1 | exact cell_alloc_old _ s1 | exact cell_alloc_old _ (cell_alloc_old _ s1) | exact cell_alloc_old _ (cell_alloc_old _ (cell_alloc_old _ s1)))
  have t0 := k5.some (by first | exact t0 | exact cell_alloc_old _ t0 | exact cell_alloc_old _ (cell_alloc_old _ t0) | exact cell_alloc_old _ (cell_alloc_old _ (cell_alloc_old _ t0)))
  have t1 := k5.some (by first | exact t1 | exact cell_alloc_old _ t1 | exact cell_alloc_old _ (cell_alloc_old _ t1) | exact cell_alloc_old _ (cell_alloc_old _ (cell_alloc_old _ t1)))
  have u0 := k5.some (by first | exact u0 | exact cell_alloc_old _ u0 | exact cell_alloc_old _ (cell_alloc_old _ u0) | exact cell_alloc_old _ (cell_alloc_old _ (cell_alloc_old _ u0)))
  have u1 := k5.some (by first | exact u1 | exact cell_alloc_old _ u1 | exact cell_alloc_old _ (cell_alloc_old _ u1) | exact cell_alloc_old _ (cell_alloc_old _ (cell_alloc_old _ u1)))
  have KK := Lib.hid (by first | exact KK.out.trans k5 | exact (KK.out.alloc _).trans k5 | exact ((KK.out.alloc _).alloc _).trans k5 | exact (((KK.out.alloc _).alloc _).alloc _).trans k5)
  have hb0 := cellBlock b0
  have hs0 := cellBlock s0
  have ht0 := cellBlock t0
  have hu0 := cellBlock u0
  have hp0 := cellBlock p0
  go_wp2_with fail
  go_at_call 33
  refine (delay_is _ 1 1 [(X, Y)] S2 L2 y 0 _ (Lib.hid (rowAll _ [(X, Y)] _ _ _ 1 (by simp) rfl rfl (by simp))) H2).mono ?_
  rintro _ w6 ⟨rfl, k6⟩
  have b0 := k6.some (by first | exact b0 | exact cell_alloc_old _ b0 | exact cell_alloc_old _ (cell_alloc_old _ b0) | exact cell_alloc_old _ (cell_alloc_old _ (cell_alloc_old _ b0)))
  have b1 := k6.some (by first | exact b1 | exact cell_alloc_old _ b1 | exact cell_alloc_old _ (cell_alloc_old _ b1) | exact cell_alloc_old _ (cell_alloc_old _ (cell_alloc_old _ b1)))
  have s0 := k6.some (by first | exact s0 | exact cell_alloc_old _ s0 | exact cell_alloc_old _ (cell_alloc_old _ s0) | exact cell_alloc_old _ (cell_alloc_old _ (cell_alloc_old _ s0)))
  have s1 := k6.some (by first | exact s1 | exact cell_alloc_old _ s1 | exact cell_alloc_old _ (cell_alloc_old _ s1) | exact cell_alloc_old _ (cell_alloc_old _ (cell_alloc_old _ s1)))
  have t0 := k6.some (by first | exact t0 | exact cell_alloc_old _ t0 | exact cell_alloc_old _ (cell_alloc_old _ t0) | exact cell_alloc_old _ (cell_alloc_old _ (cell_alloc_old _ t0)))
  have t1 := k6.some (by first | exact t1 | exact cell_alloc_old _ t1 | exact cell_alloc_old _ (cell_alloc_old _ t1) | exact cell_alloc_old _ (cell_alloc_old _ (cell_alloc_old _ t1)))
  have u0 := k6.some (by first | exact u0 | exact cell_alloc_old _ u0 | exact cell_alloc_old _ (cell_alloc_old _ u0) | exact cell_alloc_old _ (cell_alloc_old _ (cell_alloc_old _ u0)))
  have u1 := k6.some (by first | exact u1 | exact cell_alloc_old _ u1 | exact cell_alloc_old _ (cell_alloc_old _ u1) | exact cell_alloc_old _ (cell_alloc_old _ (cell_alloc_old _ u1)))
  have p0 := k6.some (by first | exact p0 | exact cell_alloc_old _ p0 | exact cell_alloc_old _ (cell_alloc_old _ p0) | exact cell_alloc_old _ (cell_alloc_old _ (cell_alloc_old _ p0)))
  have p1 := k6.some (by first | exact p1 | exact cell_alloc_old _ p1 | exact cell_alloc_old _ (cell_alloc_old _ p1) | exact cell_alloc_old _ (cell_alloc_old _ (cell_alloc_old _ p1)))
  have KK := Lib.hid (by first | exact KK.out.trans k6 | exact (KK.out.alloc _).trans k6 | exact ((KK.out.alloc _).alloc _).trans k6 | exact (((KK.out.alloc _).alloc _).alloc _).trans k6)
  have hb0 := cellBlock b0
  have hs0 := cellBlock s0
  have ht0 := cellBlock t0
  have hu0 := cellBlock u0
  have hp0 := cellBlock p0
  go_wp2_with fail
  go_at_call 33
  refine (delay_is _ 1 1 [(X, Y)] U LU z 0 _ (Lib.hid (rowAll _ [(X, Y)] _ _ _ 1 (by simp) rfl rfl (by simp))) H3).mono ?_
  rintro _ w7 ⟨rfl, k7⟩
  have b0 := k7.some (by first | exact b0 | exact cell_alloc_old _ b0 | exact cell_alloc_old _ (cell_alloc_old _ b0) | exact cell_alloc_old _ (cell_alloc_old _ (cell_alloc_old _ b0)))
  have b1 := k7.some (by first | exact b1 | exact cell_alloc_old _ b1 | exact cell_alloc_old _ (cell_alloc_old _ b1) | exact cell_alloc_old _ (cell_alloc_old _ (cell_alloc_old _ b1)))
  have s0 := k7.some (by first | exact s0 | exact cell_alloc_old _ s0 | exact cell_alloc_old _ (cell_alloc_old _ s0) | exact cell_alloc_old _ (cell_alloc_old _ (cell_alloc_old _ s0)))
  have s1 := k7.some (by first | exact s1 | exact cell_alloc_old _ s1 | exact cell_alloc_old _ (cell_alloc_old _ s1) | exact cell_alloc_old _ (cell_alloc_old _ (cell_alloc_old _ s1)))
  have t0 := k7.some (by first | exact t0 | exact cell_alloc_old _ t0 | exact cell_alloc_old _ (cell_alloc_old _ t0) | exact cell_alloc_old _ (cell_alloc_old _ (cell_alloc_old _ t0)))
  have t1 := k7.some (by first | exact t1 | exact cell_alloc_old _ t1 | exact cell_alloc_old _ (cell_alloc_old _ t1) | exact cell_alloc_old _ (cell_alloc_old _ (cell_alloc_old _ t1)))
  have u0 := k7.some (by first | exact u0 | exact cell_alloc_old _ u0 | exact cell_alloc_old _ (cell_alloc_old _ u0) | exact cell_alloc_old _ (cell_alloc_old _ (cell_alloc_old _ u0)))
  have u1 := k7.some (by first | exact u1 | exact cell_alloc_old _ u1 | exact cell_alloc_old _ (cell_alloc_old _ u1) | exact cell_alloc_old _ (cell_alloc_old _ (cell_alloc_old _ u1)))
  have p0 := k7.some (by first | exact p0 | exact cell_alloc_old _ p0 | exact cell_alloc_old _ (cell_alloc_old _ p0) | exact cell_alloc_old _ (cell_alloc_old _ (cell_alloc_old _ p0)))
  have p1 := k7.some (by first | exact p1 | exact cell_alloc_old _ p1 | exact cell_alloc_old _ (cell_alloc_old _ p1) | exact cell_alloc_old _ (cell_alloc_old _ (cell_alloc_old _ p1)))
  have KK := Lib.hid (by first | exact KK.out.trans k7 | exact (KK.out.alloc _).trans k7 | exact ((KK.out.alloc _).alloc _).trans k7 | exact (((KK.out.alloc _).alloc _).alloc _).trans k7)
  have hb0 := cellBlock b0
  have hs0 := cellBlock s0
  have ht0 := cellBlock t0
  have hu0 := cellBlock u0
  have hp0 := cellBlock p0
  go_wp2
  go_ret
  exact ⟨rfl, KK.out⟩

theorem lawJoins_any (Dv : Value) (B R : Int) (gs ss : List Int) (m0 m1 L1 L2 : Int) (w : World) (h : DraftAt w Dv B R gs ss) (hm0 : 0 ≤ m0 ∧ m0 ≤ 4294967295) (hm1 : 0 ≤ m1 ∧ m1 ≤ 4294967295) (hL1 : 0 ≤ L1 ∧ L1 ≤ 65535) (hL2 : 0 ≤ L2 ∧ L2 ≤ 65535) : Calls Try.prog 13 #[Dv, .agg #[.int .u32 m0, .int .u32 m1], .agg #[.int .u16 L1, .int .u16 L2]] w (Res (.bool true) w) := by
  have h' := h
  obtain ⟨⟨g, s, rfl, h1, h2⟩, h3, h4⟩ := h
  obtain ⟨ga, gl, gc, rfl, -⟩ := h1.form
  obtain ⟨sa, sl, sc, rfl, -⟩ := h2.form
  exact joins_walk B R ga sa gl gc sl sc gs ss m0 m1 L1 L2  w (Lib.hid h') _ _ (Lib.hid rfl) (Lib.hid rfl) (Lib.hid (okBk_of B R)) hm0 hm1 hL1 hL2

end Go.Proofs.Ytmamadgikjkjdaa
