/- NumSums' walk: the program and the reference answer the same. -/
import Derived.Test.YtbdjdmgohjjnaaaDoorRefLcm
import Derived.Test.YtbdjdmgohjjnaaaDoorNear
import Derived.Test.YtbdjdmgohjjnaaaDoorKnown
import Derived.Deep.DeepCutAuto
namespace Go.Proofs.YtbdjdmgohjjnaaaDoor
open Go Go.RowKit

theorem refAdd_is (a b : Int) (r : Int × Bool) (h : addS a b = r) (w : World) : Calls Tryd.prog 13 #[.int .i64 a, .int .i64 b] w (Pair r w) := h ▸ refAdd_any a b w
theorem refSub_is (a b : Int) (r : Int × Bool) (h : subS a b = r) (w : World) : Calls Tryd.prog 15 #[.int .i64 a, .int .i64 b] w (Pair r w) := h ▸ refSub_any a b w
theorem refMul_is (a b : Int) (r : Int × Bool) (h : mulS a b = r) (w : World) : Calls Tryd.prog 17 #[.int .i64 a, .int .i64 b] w (Pair r w) := h ▸ refMul_any a b w

set_option maxRecDepth 100000 in
set_option maxHeartbeats 8000000 in
theorem sums_true (n0 n1 h0 h1 r0 r1 : Int) (w : World) (hT : Tab w) (N0 : NearIs n0 h0 r0) (N1 : NearIs n1 h1 r1) :
    Calls Tryd.prog 3 #[.agg #[.int .i64 n0, .int .i64 n1], .agg #[.int .u8 h0, .int .u8 h1]] w fun e w' => e = .returned (.bool true) ∧ Grown w w' := by
  have HT := Lib.hid hT
  have HN0 := Lib.hid N0
  have HN1 := Lib.hid N1
  clear hT N0 N1
  have i0 : ∀ w, (Instr.index 25 (.agg #[.int .i64 n0, .int .i64 n1, .int .i64 r0, .int .i64 r1, .int .i64 r0, .int .i64 n1]) (.int .i64 0)).run Tryd.prog w = .ok (.agg #[.int .i64 n0, .int .i64 n1]) w := fun _ => by kernel_rfl
  have i1 : ∀ w, (Instr.index 25 (.agg #[.int .i64 n0, .int .i64 n1, .int .i64 r0, .int .i64 r1, .int .i64 r0, .int .i64 n1]) (.int .i64 1)).run Tryd.prog w = .ok (.agg #[.int .i64 r0, .int .i64 r1]) w := fun _ => by kernel_rfl
  have i2 : ∀ w, (Instr.index 25 (.agg #[.int .i64 n0, .int .i64 n1, .int .i64 r0, .int .i64 r1, .int .i64 r0, .int .i64 n1]) (.int .i64 2)).run Tryd.prog w = .ok (.agg #[.int .i64 r0, .int .i64 n1]) w := fun _ => by kernel_rfl
  go_enter Tryd.func3, Tryd.ntmps3
  go_wp2_with fail
  go_quiet ((first | (go_at_call_of 11 (Value.int IntKind.i64 n0); exact Calls.quiet_of_same (HN0.out _)) | (go_at_call_of 11 (Value.int IntKind.i64 n1); exact Calls.quiet_of_same (HN1.out _))))
  go_wp2_with fail
  go_loopw [40] (fun i wr => ∃ k : Nat, k ≤ 3 ∧ i = .int .i64 k ∧ Hid (Grown w wr)) (fun i _ => 3 - (intOf i).toNat)
  case atStart => exact ⟨0, by omega, rfl, Lib.hid (grownDrewN (by go_grown) _)⟩
  case round =>
    obtain ⟨k, hk, rfl, HGR⟩ := hrel
    obtain rfl | rfl | rfl | rfl : k = 0 ∨ k = 1 ∨ k = 2 ∨ k = 3 := by omega
    · -- round 0
      obtain ⟨⟨p0, b0⟩, hp0⟩ : ∃ r, addS n0 n1 = r := ⟨_, rfl⟩
      have HP0 := Lib.hid hp0
      clear hp0
      obtain ⟨⟨p1, b1⟩, hp1⟩ : ∃ r, subS n0 n1 = r := ⟨_, rfl⟩
      have HP1 := Lib.hid hp1
      clear hp1
      obtain ⟨⟨p2, b2⟩, hp2⟩ : ∃ r, mulS n0 n1 = r := ⟨_, rfl⟩
      have HP2 := Lib.hid hp2
      clear hp2
      go_wp2_with fail
      go_at_call 12
      refine (add_is n0 n1 (p0, b0) HP0.out _).mono ?_
      rintro e w1 ⟨rfl, hg1⟩
      have c0_1 : w1.cell? ⟨wr.heap.size, 0, none⟩ = some (.int .i64 n0) := grownSome hg1 (by first | assumption | (simp [go_sem]; done))
      have c1_1 : w1.cell? ⟨wr.heap.size, 1, none⟩ = some (.int .i64 n1) := grownSome hg1 (by first | assumption | (simp [go_sem]; done))
      have GG1 := Lib.hid (grownTrans (Grown.alloc HGR.out _ _) hg1)
      clear hg1
      go_wp2_with fail
      go_at_call 13
      refine (refAdd_is n0 n1 (p0, b0) HP0.out _).mono ?_
      rintro e w2 ⟨rfl, hg2⟩
      have c0_2 : w2.cell? ⟨wr.heap.size, 0, none⟩ = some (.int .i64 n0) := grownSome hg2 (by first | assumption | (simp [go_sem]; done))
      have c1_2 : w2.cell? ⟨wr.heap.size, 1, none⟩ = some (.int .i64 n1) := grownSome hg2 (by first | assumption | (simp [go_sem]; done))
      have GG2 := Lib.hid (grownTrans GG1.out hg2)
      clear c0_1 c1_1
      clear hg2
      go_wp2_with fail
      go_at_call 14
      refine (sub_is n0 n1 (p1, b1) HP1.out _).mono ?_
      rintro e w3 ⟨rfl, hg3⟩
      have c0_3 : w3.cell? ⟨wr.heap.size, 0, none⟩ = some (.int .i64 n0) := grownSome hg3 (by first | assumption | (simp [go_sem]; done))
      have c1_3 : w3.cell? ⟨wr.heap.size, 1, none⟩ = some (.int .i64 n1) := grownSome hg3 (by first | assumption | (simp [go_sem]; done))
      have GG3 := Lib.hid (grownTrans GG2.out hg3)
      clear c0_2 c1_2
      clear hg3
      go_wp2_with fail
      go_at_call 15
      refine (refSub_is n0 n1 (p1, b1) HP1.out _).mono ?_
      rintro e w4 ⟨rfl, hg4⟩
      have c0_4 : w4.cell? ⟨wr.heap.size, 0, none⟩ = some (.int .i64 n0) := grownSome hg4 (by first | assumption | (simp [go_sem]; done))
      have c1_4 : w4.cell? ⟨wr.heap.size, 1, none⟩ = some (.int .i64 n1) := grownSome hg4 (by first | assumption | (simp [go_sem]; done))
      have GG4 := Lib.hid (grownTrans GG3.out hg4)
      clear c0_3 c1_3
      clear hg4
      go_wp2_with fail
      go_at_call 16
      refine (mul_is n0 n1 (p2, b2) HP2.out _).mono ?_
      rintro e w5 ⟨rfl, hg5⟩
      have c0_5 : w5.cell? ⟨wr.heap.size, 0, none⟩ = some (.int .i64 n0) := grownSome hg5 (by first | assumption | (simp [go_sem]; done))
      have c1_5 : w5.cell? ⟨wr.heap.size, 1, none⟩ = some (.int .i64 n1) := grownSome hg5 (by first | assumption | (simp [go_sem]; done))
      have GG5 := Lib.hid (grownTrans GG4.out hg5)
      clear c0_4 c1_4
      clear hg5
      go_wp2_with fail
      go_at_call 17
      refine (refMul_is n0 n1 (p2, b2) HP2.out _).mono ?_
      rintro e w6 ⟨rfl, hg6⟩
      have c0_6 : w6.cell? ⟨wr.heap.size, 0, none⟩ = some (.int .i64 n0) := grownSome hg6 (by first | assumption | (simp [go_sem]; done))
      have c1_6 : w6.cell? ⟨wr.heap.size, 1, none⟩ = some (.int .i64 n1) := grownSome hg6 (by first | assumption | (simp [go_sem]; done))
      have GG6 := Lib.hid (grownTrans GG5.out hg6)
      clear c0_5 c1_5
      clear hg6
      go_wp2
      go_roundw
      case rel => exact ⟨1, by omega, rfl, GG6⟩
      case measure => simp [intOf]
    · -- round 1
      obtain ⟨⟨p0, b0⟩, hp0⟩ : ∃ r, addS r0 r1 = r := ⟨_, rfl⟩
      have HP0 := Lib.hid hp0
      clear hp0
      obtain ⟨⟨p1, b1⟩, hp1⟩ : ∃ r, subS r0 r1 = r := ⟨_, rfl⟩
      have HP1 := Lib.hid hp1
      clear hp1
      obtain ⟨⟨p2, b2⟩, hp2⟩ : ∃ r, mulS r0 r1 = r := ⟨_, rfl⟩
      have HP2 := Lib.hid hp2
      clear hp2
      go_wp2_with fail
      go_at_call 12
      refine (add_is r0 r1 (p0, b0) HP0.out _).mono ?_
      rintro e w1 ⟨rfl, hg1⟩
      have c0_1 : w1.cell? ⟨wr.heap.size, 0, none⟩ = some (.int .i64 r0) := grownSome hg1 (by first | assumption | (simp [go_sem]; done))
      have c1_1 : w1.cell? ⟨wr.heap.size, 1, none⟩ = some (.int .i64 r1) := grownSome hg1 (by first | assumption | (simp [go_sem]; done))
      have GG1 := Lib.hid (grownTrans (Grown.alloc HGR.out _ _) hg1)
      clear hg1
      go_wp2_with fail
      go_at_call 13
      refine (refAdd_is r0 r1 (p0, b0) HP0.out _).mono ?_
      rintro e w2 ⟨rfl, hg2⟩
      have c0_2 : w2.cell? ⟨wr.heap.size, 0, none⟩ = some (.int .i64 r0) := grownSome hg2 (by first | assumption | (simp [go_sem]; done))
      have c1_2 : w2.cell? ⟨wr.heap.size, 1, none⟩ = some (.int .i64 r1) := grownSome hg2 (by first | assumption | (simp [go_sem]; done))
      have GG2 := Lib.hid (grownTrans GG1.out hg2)
      clear c0_1 c1_1
      clear hg2
      go_wp2_with fail
      go_at_call 14
      refine (sub_is r0 r1 (p1, b1) HP1.out _).mono ?_
      rintro e w3 ⟨rfl, hg3⟩
      have c0_3 : w3.cell? ⟨wr.heap.size, 0, none⟩ = some (.int .i64 r0) := grownSome hg3 (by first | assumption | (simp [go_sem]; done))
      have c1_3 : w3.cell? ⟨wr.heap.size, 1, none⟩ = some (.int .i64 r1) := grownSome hg3 (by first | assumption | (simp [go_sem]; done))
      have GG3 := Lib.hid (grownTrans GG2.out hg3)
      clear c0_2 c1_2
      clear hg3
      go_wp2_with fail
      go_at_call 15
      refine (refSub_is r0 r1 (p1, b1) HP1.out _).mono ?_
      rintro e w4 ⟨rfl, hg4⟩
      have c0_4 : w4.cell? ⟨wr.heap.size, 0, none⟩ = some (.int .i64 r0) := grownSome hg4 (by first | assumption | (simp [go_sem]; done))
      have c1_4 : w4.cell? ⟨wr.heap.size, 1, none⟩ = some (.int .i64 r1) := grownSome hg4 (by first | assumption | (simp [go_sem]; done))
      have GG4 := Lib.hid (grownTrans GG3.out hg4)
      clear c0_3 c1_3
      clear hg4
      go_wp2_with fail
      go_at_call 16
      refine (mul_is r0 r1 (p2, b2) HP2.out _).mono ?_
      rintro e w5 ⟨rfl, hg5⟩
      have c0_5 : w5.cell? ⟨wr.heap.size, 0, none⟩ = some (.int .i64 r0) := grownSome hg5 (by first | assumption | (simp [go_sem]; done))
      have c1_5 : w5.cell? ⟨wr.heap.size, 1, none⟩ = some (.int .i64 r1) := grownSome hg5 (by first | assumption | (simp [go_sem]; done))
      have GG5 := Lib.hid (grownTrans GG4.out hg5)
      clear c0_4 c1_4
      clear hg5
      go_wp2_with fail
      go_at_call 17
      refine (refMul_is r0 r1 (p2, b2) HP2.out _).mono ?_
      rintro e w6 ⟨rfl, hg6⟩
      have c0_6 : w6.cell? ⟨wr.heap.size, 0, none⟩ = some (.int .i64 r0) := grownSome hg6 (by first | assumption | (simp [go_sem]; done))
      have c1_6 : w6.cell? ⟨wr.heap.size, 1, none⟩ = some (.int .i64 r1) := grownSome hg6 (by first | assumption | (simp [go_sem]; done))
      have GG6 := Lib.hid (grownTrans GG5.out hg6)
      clear c0_5 c1_5
      clear hg6
      go_wp2
      go_roundw
      case rel => exact ⟨2, by omega, rfl, GG6⟩
      case measure => simp [intOf]
    · -- round 2
      obtain ⟨⟨p0, b0⟩, hp0⟩ : ∃ r, addS r0 n1 = r := ⟨_, rfl⟩
      have HP0 := Lib.hid hp0
      clear hp0
      obtain ⟨⟨p1, b1⟩, hp1⟩ : ∃ r, subS r0 n1 = r := ⟨_, rfl⟩
      have HP1 := Lib.hid hp1
      clear hp1
      obtain ⟨⟨p2, b2⟩, hp2⟩ : ∃ r, mulS r0 n1 = r := ⟨_, rfl⟩
      have HP2 := Lib.hid hp2
      clear hp2
      go_wp2_with fail
      go_at_call 12
      refine (add_is r0 n1 (p0, b0) HP0.out _).mono ?_
      rintro e w1 ⟨rfl, hg1⟩
      have c0_1 : w1.cell? ⟨wr.heap.size, 0, none⟩ = some (.int .i64 r0) := grownSome hg1 (by first | assumption | (simp [go_sem]; done))
      have c1_1 : w1.cell? ⟨wr.heap.size, 1, none⟩ = some (.int .i64 n1) := grownSome hg1 (by first | assumption | (simp [go_sem]; done))
      have GG1 := Lib.hid (grownTrans (Grown.alloc HGR.out _ _) hg1)
      clear hg1
      go_wp2_with fail
      go_at_call 13
      refine (refAdd_is r0 n1 (p0, b0) HP0.out _).mono ?_
      rintro e w2 ⟨rfl, hg2⟩
      have c0_2 : w2.cell? ⟨wr.heap.size, 0, none⟩ = some (.int .i64 r0) := grownSome hg2 (by first | assumption | (simp [go_sem]; done))
      have c1_2 : w2.cell? ⟨wr.heap.size, 1, none⟩ = some (.int .i64 n1) := grownSome hg2 (by first | assumption | (simp [go_sem]; done))
      have GG2 := Lib.hid (grownTrans GG1.out hg2)
      clear c0_1 c1_1
      clear hg2
      go_wp2_with fail
      go_at_call 14
      refine (sub_is r0 n1 (p1, b1) HP1.out _).mono ?_
      rintro e w3 ⟨rfl, hg3⟩
      have c0_3 : w3.cell? ⟨wr.heap.size, 0, none⟩ = some (.int .i64 r0) := grownSome hg3 (by first | assumption | (simp [go_sem]; done))
      have c1_3 : w3.cell? ⟨wr.heap.size, 1, none⟩ = some (.int .i64 n1) := grownSome hg3 (by first | assumption | (simp [go_sem]; done))
      have GG3 := Lib.hid (grownTrans GG2.out hg3)
      clear c0_2 c1_2
      clear hg3
      go_wp2_with fail
      go_at_call 15
      refine (refSub_is r0 n1 (p1, b1) HP1.out _).mono ?_
      rintro e w4 ⟨rfl, hg4⟩
      have c0_4 : w4.cell? ⟨wr.heap.size, 0, none⟩ = some (.int .i64 r0) := grownSome hg4 (by first | assumption | (simp [go_sem]; done))
      have c1_4 : w4.cell? ⟨wr.heap.size, 1, none⟩ = some (.int .i64 n1) := grownSome hg4 (by first | assumption | (simp [go_sem]; done))
      have GG4 := Lib.hid (grownTrans GG3.out hg4)
      clear c0_3 c1_3
      clear hg4
      go_wp2_with fail
      go_at_call 16
      refine (mul_is r0 n1 (p2, b2) HP2.out _).mono ?_
      rintro e w5 ⟨rfl, hg5⟩
      have c0_5 : w5.cell? ⟨wr.heap.size, 0, none⟩ = some (.int .i64 r0) := grownSome hg5 (by first | assumption | (simp [go_sem]; done))
      have c1_5 : w5.cell? ⟨wr.heap.size, 1, none⟩ = some (.int .i64 n1) := grownSome hg5 (by first | assumption | (simp [go_sem]; done))
      have GG5 := Lib.hid (grownTrans GG4.out hg5)
      clear c0_4 c1_4
      clear hg5
      go_wp2_with fail
      go_at_call 17
      refine (refMul_is r0 n1 (p2, b2) HP2.out _).mono ?_
      rintro e w6 ⟨rfl, hg6⟩
      have c0_6 : w6.cell? ⟨wr.heap.size, 0, none⟩ = some (.int .i64 r0) := grownSome hg6 (by first | assumption | (simp [go_sem]; done))
      have c1_6 : w6.cell? ⟨wr.heap.size, 1, none⟩ = some (.int .i64 n1) := grownSome hg6 (by first | assumption | (simp [go_sem]; done))
      have GG6 := Lib.hid (grownTrans GG5.out hg6)
      clear c0_5 c1_5
      clear hg6
      go_wp2
      go_roundw
      case rel => exact ⟨3, by omega, rfl, GG6⟩
      case measure => simp [intOf]
    · go_wp2_with (go_at_call 18; ((with_reducible refine (works_true _ (HT.out.grown HGR.out)).mono ?_); rintro e w1 ⟨rfl, hg1⟩))
      go_ret
      exact ⟨rfl, grownTrans HGR.out hg1⟩

end Go.Proofs.YtbdjdmgohjjnaaaDoor
