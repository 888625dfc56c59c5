/- NumScales' walk: the program and the reference answer the same. -/
import Derived.Test.YtbdjdmgohjjnaaaDoorLawSums
namespace Go.Proofs.YtbdjdmgohjjnaaaDoor
open Go Go.RowKit

theorem refMulDiv_is (a b c : Int) (r : Int × Bool) (h : mulDivS a b c = r) (w : World) : Calls Tryd.prog 26 #[.int .i64 a, .int .i64 b, .int .i64 c] w (Pair r w) := h ▸ refMulDiv_any a b c w

set_option maxRecDepth 100000 in
set_option maxHeartbeats 8000000 in
theorem scales_true (n0 n1 n2 h0 h1 h2 r0 r1 r2 s0 s1 t2 q2 : Int) (w : World) (hT : Tab w) (N0 : NearIs n0 h0 r0) (N1 : NearIs n1 h1 r1) (N2 : NearIs n2 h2 r2) (S0 : NearIs n0 5 s0) (S1 : NearIs n1 5 s1)
    (K1 : IntKind.i64.wrap ((IntKind.u64.wrap n2).tmod 1125899906842624) = t2) (K2 : IntKind.i64.wrap (1 + t2) = q2) :
    Calls Tryd.prog 5 #[.agg #[.int .i64 n0, .int .i64 n1, .int .i64 n2], .agg #[.int .u8 h0, .int .u8 h1, .int .u8 h2]] w fun e w' => e = .returned (.bool true) ∧ Grown w w' := by
  have HT := Lib.hid hT
  have HN0 := Lib.hid N0
  have HN1 := Lib.hid N1
  have HN2 := Lib.hid N2
  have HS0 := Lib.hid S0
  have HS1 := Lib.hid S1
  clear hT N0 N1 N2 S0 S1
  have i0 : ∀ w, (Instr.index 33 (.agg #[.int .i64 n0, .int .i64 n1, .int .i64 n2, .int .i64 r0, .int .i64 r1, .int .i64 r2, .int .i64 s0, .int .i64 s1, .int .i64 q2]) (.int .i64 0)).run Tryd.prog w = .ok (.agg #[.int .i64 n0, .int .i64 n1, .int .i64 n2]) w := fun _ => by kernel_rfl
  have i1 : ∀ w, (Instr.index 33 (.agg #[.int .i64 n0, .int .i64 n1, .int .i64 n2, .int .i64 r0, .int .i64 r1, .int .i64 r2, .int .i64 s0, .int .i64 s1, .int .i64 q2]) (.int .i64 1)).run Tryd.prog w = .ok (.agg #[.int .i64 r0, .int .i64 r1, .int .i64 r2]) w := fun _ => by kernel_rfl
  have i2 : ∀ w, (Instr.index 33 (.agg #[.int .i64 n0, .int .i64 n1, .int .i64 n2, .int .i64 r0, .int .i64 r1, .int .i64 r2, .int .i64 s0, .int .i64 s1, .int .i64 q2]) (.int .i64 2)).run Tryd.prog w = .ok (.agg #[.int .i64 s0, .int .i64 s1, .int .i64 q2]) w := fun _ => by kernel_rfl
  go_enter Tryd.func5, Tryd.ntmps5
  go_wp2_with fail
  go_quiet ((go_at_call 11; first | ((with_reducible show Calls _ _ #[Value.int IntKind.i64 n0, Value.int IntKind.u8 h0] _ _); exact Calls.quiet_of_same (HN0.out _)) | ((with_reducible show Calls _ _ #[Value.int IntKind.i64 n1, Value.int IntKind.u8 h1] _ _); exact Calls.quiet_of_same (HN1.out _)) | ((with_reducible show Calls _ _ #[Value.int IntKind.i64 n2, Value.int IntKind.u8 h2] _ _); exact Calls.quiet_of_same (HN2.out _)) | ((with_reducible show Calls _ _ #[Value.int IntKind.i64 n0, Value.int IntKind.u8 5] _ _); exact Calls.quiet_of_same (HS0.out _)) | ((with_reducible show Calls _ _ #[Value.int IntKind.i64 n1, Value.int IntKind.u8 5] _ _); exact Calls.quiet_of_same (HS1.out _))))
  go_wp2_with fail
  go_loopw [42] (fun i wr => ∃ k : Nat, k ≤ 3 ∧ i = .int .i64 k ∧ Hid (Grown w wr)) (fun i _ => 3 - (intOf i).toNat)
  case atStart => exact ⟨0, by omega, rfl, Lib.hid (grownDrewN (by go_grown) _)⟩
  case round =>
    obtain ⟨k, hk, rfl, HGR⟩ := hrel
    obtain rfl | rfl | rfl | rfl : k = 0 ∨ k = 1 ∨ k = 2 ∨ k = 3 := by omega
    · -- round 0
      obtain ⟨⟨p0, b0⟩, hp0⟩ : ∃ r, mulDivS n0 n1 n2 = r := ⟨_, rfl⟩
      have HP0 := Lib.hid hp0
      clear hp0
      go_wp2_with fail
      go_at_call 25
      refine (mulDiv_is n0 n1 n2 (p0, b0) HP0.out _).mono ?_
      rintro e w1 ⟨rfl, hg1⟩
      have c0_1 : w1.cell? ⟨wr.heap.size, 0, none⟩ = some (.int .i64 n0) := grownSome hg1 (by first | assumption | (simp [go_sem]; done))
      have c1_1 : w1.cell? ⟨wr.heap.size, 1, none⟩ = some (.int .i64 n1) := grownSome hg1 (by first | assumption | (simp [go_sem]; done))
      have c2_1 : w1.cell? ⟨wr.heap.size, 2, none⟩ = some (.int .i64 n2) := grownSome hg1 (by first | assumption | (simp [go_sem]; done))
      have GG1 := Lib.hid (grownTrans (Grown.alloc HGR.out _ _) hg1)
      clear hg1
      go_wp2_with fail
      go_at_call 26
      refine (refMulDiv_is n0 n1 n2 (p0, b0) HP0.out _).mono ?_
      rintro e w2 ⟨rfl, hg2⟩
      have c0_2 : w2.cell? ⟨wr.heap.size, 0, none⟩ = some (.int .i64 n0) := grownSome hg2 (by first | assumption | (simp [go_sem]; done))
      have c1_2 : w2.cell? ⟨wr.heap.size, 1, none⟩ = some (.int .i64 n1) := grownSome hg2 (by first | assumption | (simp [go_sem]; done))
      have c2_2 : w2.cell? ⟨wr.heap.size, 2, none⟩ = some (.int .i64 n2) := grownSome hg2 (by first | assumption | (simp [go_sem]; done))
      have GG2 := Lib.hid (grownTrans GG1.out hg2)
      clear c0_1 c1_1 c2_1
      clear hg2
      go_wp2
      go_roundw
      case rel => exact ⟨1, by omega, rfl, GG2⟩
      case measure => simp [intOf]
    · -- round 1
      obtain ⟨⟨p0, b0⟩, hp0⟩ : ∃ r, mulDivS r0 r1 r2 = r := ⟨_, rfl⟩
      have HP0 := Lib.hid hp0
      clear hp0
      go_wp2_with fail
      go_at_call 25
      refine (mulDiv_is r0 r1 r2 (p0, b0) HP0.out _).mono ?_
      rintro e w1 ⟨rfl, hg1⟩
      have c0_1 : w1.cell? ⟨wr.heap.size, 0, none⟩ = some (.int .i64 r0) := grownSome hg1 (by first | assumption | (simp [go_sem]; done))
      have c1_1 : w1.cell? ⟨wr.heap.size, 1, none⟩ = some (.int .i64 r1) := grownSome hg1 (by first | assumption | (simp [go_sem]; done))
      have c2_1 : w1.cell? ⟨wr.heap.size, 2, none⟩ = some (.int .i64 r2) := grownSome hg1 (by first | assumption | (simp [go_sem]; done))
      have GG1 := Lib.hid (grownTrans (Grown.alloc HGR.out _ _) hg1)
      clear hg1
      go_wp2_with fail
      go_at_call 26
      refine (refMulDiv_is r0 r1 r2 (p0, b0) HP0.out _).mono ?_
      rintro e w2 ⟨rfl, hg2⟩
      have c0_2 : w2.cell? ⟨wr.heap.size, 0, none⟩ = some (.int .i64 r0) := grownSome hg2 (by first | assumption | (simp [go_sem]; done))
      have c1_2 : w2.cell? ⟨wr.heap.size, 1, none⟩ = some (.int .i64 r1) := grownSome hg2 (by first | assumption | (simp [go_sem]; done))
      have c2_2 : w2.cell? ⟨wr.heap.size, 2, none⟩ = some (.int .i64 r2) := grownSome hg2 (by first | assumption | (simp [go_sem]; done))
      have GG2 := Lib.hid (grownTrans GG1.out hg2)
      clear c0_1 c1_1 c2_1
      clear hg2
      go_wp2
      go_roundw
      case rel => exact ⟨2, by omega, rfl, GG2⟩
      case measure => simp [intOf]
    · -- round 2
      obtain ⟨⟨p0, b0⟩, hp0⟩ : ∃ r, mulDivS s0 s1 q2 = r := ⟨_, rfl⟩
      have HP0 := Lib.hid hp0
      clear hp0
      go_wp2_with fail
      go_at_call 25
      refine (mulDiv_is s0 s1 q2 (p0, b0) HP0.out _).mono ?_
      rintro e w1 ⟨rfl, hg1⟩
      have c0_1 : w1.cell? ⟨wr.heap.size, 0, none⟩ = some (.int .i64 s0) := grownSome hg1 (by first | assumption | (simp [go_sem]; done))
      have c1_1 : w1.cell? ⟨wr.heap.size, 1, none⟩ = some (.int .i64 s1) := grownSome hg1 (by first | assumption | (simp [go_sem]; done))
      have c2_1 : w1.cell? ⟨wr.heap.size, 2, none⟩ = some (.int .i64 q2) := grownSome hg1 (by first | assumption | (simp [go_sem]; done))
      have GG1 := Lib.hid (grownTrans (Grown.alloc HGR.out _ _) hg1)
      clear hg1
      go_wp2_with fail
      go_at_call 26
      refine (refMulDiv_is s0 s1 q2 (p0, b0) HP0.out _).mono ?_
      rintro e w2 ⟨rfl, hg2⟩
      have c0_2 : w2.cell? ⟨wr.heap.size, 0, none⟩ = some (.int .i64 s0) := grownSome hg2 (by first | assumption | (simp [go_sem]; done))
      have c1_2 : w2.cell? ⟨wr.heap.size, 1, none⟩ = some (.int .i64 s1) := grownSome hg2 (by first | assumption | (simp [go_sem]; done))
      have c2_2 : w2.cell? ⟨wr.heap.size, 2, none⟩ = some (.int .i64 q2) := grownSome hg2 (by first | assumption | (simp [go_sem]; done))
      have GG2 := Lib.hid (grownTrans GG1.out hg2)
      clear c0_1 c1_1 c2_1
      clear hg2
      go_wp2
      go_roundw
      case rel => exact ⟨3, by omega, rfl, GG2⟩
      case measure => simp [intOf]
    · go_wp2_with (go_at_call 18; ((with_reducible refine (works_true _ (HT.out.grown HGR.out)).mono ?_); rintro e w1 ⟨rfl, hg1⟩))
      go_ret
      exact ⟨rfl, grownTrans HGR.out hg1⟩

end Go.Proofs.YtbdjdmgohjjnaaaDoor
