/- What octetSteps of the package crc returns. -/
import Derived.Test.YtgejpbgpgklimaaCStep
import Derived.Test.YtgejpbgpgklimaaCRows
import Derived.LoopN
namespace Go.Proofs.Ytgejpbgpgklimaa
open Go Go.RowKit

theorem bvOf_nat (j : Nat) : bvOf (j : Int) = BitVec.ofNat 32 j := by unfold bvOf; exact BitVec.ofInt_natCast 32 j
theorem zero_table (w : World) : (zeroValue 113).run Try.prog w = .ok (.agg (tabA 0)) w := by
  rw [tabA_zero]
  kernel_rfl
theorem info_table : (Try.prog.info? 113).map (·.size) = some 256 := by kernel_rfl
set_option maxRecDepth 100000 in
set_option maxHeartbeats 1000000 in
theorem steps_any (w : World) : Calls Try.prog 77 #[] w (Res (.agg (tabA 256)) w) := by
  have hz := zero_table
  have hu := Try.underlying113
  go_enter Try.func77, Try.ntmps77
  go_wp2
  clear hz
  go_loopw [2, 3, 4] (fun _ _ i wr => ∃ j : Nat, j ≤ 256 ∧ i = .int .i64 j ∧ Hid (Keep w wr) ∧ Hid (wr.heap[w.heap.size]? = some (.cells (tabA 0) 113 (0, 0))) ∧ Hid (wr.heap[w.heap.size + 1]? = some (.cells (tabA j) 113 (0, 0)))) (fun _ _ i _ => 256 - (intOf i).toNat)
  case atStart => exact ⟨0, by omega, rfl, Lib.hid (((Keep.refl w).alloc _).alloc _), Lib.hid (heap_alloc2_old w _ _), Lib.hid (heap_alloc2_new w _ _)⟩
  case round =>
    obtain ⟨j, hj, rfl, HK, H0, H1⟩ := hrel
    by_cases hlt : j < 256
    · obtain ⟨wo, rfl⟩ : ∃ wo : World, wo = wr := ⟨_, rfl⟩
      have hw : IntKind.u32.wrap (j : Int) = (j : Int) := by rw [IntKind.wrap_u32']; omega
      have hd : decide ((j : Int) < 256) = true := decide_eq_true (by omega)
      have hb : ∀ m, 0 ≤ cv (stp m (BitVec.ofNat 32 j)) ∧ cv (stp m (BitVec.ofNat 32 j)) < 4294967296 := fun m => cv_bd _
      have h0 : (j : Int) = cv (stp 0 (BitVec.ofNat 32 j)) := by rw [← bvOf_nat]; unfold stp; exact (cv_bvOf (by omega)).symm
      have HB := Lib.hid hb
      have H0' := Lib.hid h0
      clear hb h0
      go_wp2
      go_loop [3, 9] (fun c i => ∃ m : Nat, m ≤ 8 ∧ i = .int .i64 m ∧ c = .int .u32 (cv (stp m (BitVec.ofNat 32 j)))) (fun _ i => 8 - (intOf i).toNat)
      case atStart => exact ⟨0, by omega, rfl, by rw [← H0'.out]⟩
      case round =>
        obtain ⟨m, hm, rfl, rfl⟩ := hrel
        by_cases hm8 : m < 8
        · have hc := HB.out m
          have HS : Hid (cv (step (bvOf (cv (stp m (BitVec.ofNat 32 j))))) = cv (stp (m + 1) (BitVec.ofNat 32 j))) := Lib.hid (by rw [bvOf_cv, stp_snoc])
          obtain ⟨c1, hc1⟩ : ∃ c1, cv (stp (m + 1) (BitVec.ofNat 32 j)) = c1 := ⟨_, rfl⟩
          rw [hc1] at HS
          have HC1 := Lib.hid hc1
          clear hc1
          generalize cv (stp m (BitVec.ofNat 32 j)) = c0 at *
          go_wp2_with (go_at_call 83; ((with_reducible refine (step_is c0 c1 _ hc HS).mono ?_); rintro e w' ⟨rfl, rfl⟩))
          go_round
          case rel => exact ⟨m + 1, by omega, by go_num, by rw [HC1.out]⟩
          case measure => simp [intOf]; omega
        · obtain rfl : m = 8 := by omega
          have hcell : wo.cell? ⟨w.heap.size + 1, j, none⟩ = some (.int .u32 0) := by rw [cell_of_row _ _ _ _ _ _ H1.out, tabA_get j j hlt]; simp
          have hfro : wo.frozen? ⟨w.heap.size + 1, j, none⟩ = false := frozen_of_row _ _ _ _ _ H1.out
          have HT : Hid (cv (stp 8 (BitVec.ofNat 32 j)) = cv (tabV j)) := Lib.hid rfl
          generalize cv (stp 8 (BitVec.ofNat 32 j)) = c0 at *
          go_wp2
          go_roundw
          case rel => exact ⟨j + 1, by omega, by go_num, Lib.hid (HK.out.setCell (by show w.heap.size ≤ w.heap.size + 1; omega) _), Lib.hid ((heap_setCell_other _ _ _ _ (by show w.heap.size ≠ w.heap.size + 1; omega)).trans H0.out), Lib.hid (by rw [HT.out, ← tabA_set]; exact heap_setCell_same _ _ _ _ _ _ H1.out)⟩
          case measure => simp [intOf]; omega
    · obtain rfl : j = 256 := by omega
      go_wp2_with (first | (refine wpList_load_row rfl 113 _ rfl (w.heap.size + 1) rfl 113 (tabA 256) (0, 0) _ H1.out hu rfl (by rw [tabA_size]; exact info_table) ?_) | (refine wpList_store_row rfl 113 _ _ rfl w.heap.size rfl 113 (tabA 0) (tabA 256) rfl H0.out (by rw [tabA_size, tabA_size]) (tabA_one _) (by rw [tabA_size]; exact info_table) ?_))
      have hg := setRow_heap wr w.heap.size (tabA 0) (tabA 256) _ _ H0.out
      exact bodyPost_ret (v := .agg (tabA 256)) (results_cell_row Try.results77 _ _ w.heap.size _ (tabA 256) _ _ rfl hg hu rfl (by rw [tabA_size]; exact info_table)) rfl ⟨rfl, HK.out.setRow (by omega) _⟩
end Go.Proofs.Ytgejpbgpgklimaa
