/- What the law's cut returns. -/
import Derived.Test.YtmgnmkdjphnaoaaFCand2
namespace Go.Proofs.Ytmgnmkdjphnaoaa
open Go Go.RowKit

set_option maxRecDepth 100000 in
set_option maxHeartbeats 2000000 in
theorem cut_is (D S P V N Y : Int) (T Q : Bool) (X XC : ByteArray) (w : World) (hX : X.size ≤ maxLen) (HX : Hid (X.extract 0 (min X.size 1502) = XC)) : Calls Try.prog 10 #[.agg #[.int .i64 D, .int .i64 S, .bool T, .int .i64 P, .int .i64 V, .bool Q, .int .i64 N, .int .i64 Y, .string X]] w (RetF ⟨D, S, T, P, V, Q, N, Y, XC⟩ w) := by
  unfold maxLen at hX
  obtain ⟨j, hj⟩ : ∃ j : Nat, min X.size 1502 = j := ⟨_, rfl⟩
  have hmn : min (X.size : Int) 1502 = (j : Int) := by omega
  have hjb : (j : Int) ≤ (X.size : Int) := by omega
  have hxc : X.extract 0 j = XC := by rw [← hj]; exact HX.out
  clear HX hj
  go_enter Try.func10, Try.ntmps10
  go_upto_region 1 with fail
  have hB : FrAt ((w.alloc (.cells #[.int .i64 D, .int .i64 S, .bool T, .int .i64 P, .int .i64 V, .bool Q, .int .i64 N, .int .i64 Y, .string X] 23)).alloc (.cells #[.int .i64 0, .int .i64 0, .bool false, .int .i64 0, .int .i64 0, .bool false, .int .i64 0, .int .i64 0, .string ⟨#[]⟩] 23)) w.heap.size D S T P V Q N Y X := fr_k (heap_alloc_new w (.cells #[.int .i64 D, .int .i64 S, .bool T, .int .i64 P, .int .i64 V, .bool Q, .int .i64 N, .int .i64 Y, .string X] 23)) ((Keep.refl _).alloc _)
  have hC : FrAt ((w.alloc (.cells #[.int .i64 D, .int .i64 S, .bool T, .int .i64 P, .int .i64 V, .bool Q, .int .i64 N, .int .i64 Y, .string X] 23)).alloc (.cells #[.int .i64 0, .int .i64 0, .bool false, .int .i64 0, .int .i64 0, .bool false, .int .i64 0, .int .i64 0, .string ⟨#[]⟩] 23)) (w.heap.size + 1) 0 0 false 0 0 false 0 0 ⟨#[]⟩ := by
    have := heap_alloc_new (w.alloc (.cells #[.int .i64 D, .int .i64 S, .bool T, .int .i64 P, .int .i64 V, .bool Q, .int .i64 N, .int .i64 Y, .string X] 23)) (.cells #[.int .i64 0, .int .i64 0, .bool false, .int .i64 0, .int .i64 0, .bool false, .int .i64 0, .int .i64 0, .string ⟨#[]⟩] 23)
    rw [show (w.alloc (.cells #[.int .i64 D, .int .i64 S, .bool T, .int .i64 P, .int .i64 V, .bool Q, .int .i64 N, .int .i64 Y, .string X] 23)).heap.size = w.heap.size + 1 by simp] at this
    exact this
  have K := Lib.hid (((Keep.refl w).alloc (.cells #[.int .i64 D, .int .i64 S, .bool T, .int .i64 P, .int .i64 V, .bool Q, .int .i64 N, .int .i64 Y, .string X] 23)).alloc (.cells #[.int .i64 0, .int .i64 0, .bool false, .int .i64 0, .int .i64 0, .bool false, .int .i64 0, .int .i64 0, .string ⟨#[]⟩] 23))
  generalize (w.alloc (.cells #[.int .i64 D, .int .i64 S, .bool T, .int .i64 P, .int .i64 V, .bool Q, .int .i64 N, .int .i64 Y, .string X] 23)).alloc (.cells #[.int .i64 0, .int .i64 0, .bool false, .int .i64 0, .int .i64 0, .bool false, .int .i64 0, .int .i64 0, .string ⟨#[]⟩] 23) = w0 at *
  obtain ⟨C, hCC⟩ : ∃ C, w.heap.size + 1 = C := ⟨_, rfl⟩
  obtain ⟨B, hBB⟩ : ∃ B, w.heap.size = B := ⟨_, rfl⟩
  rw [hCC] at hC ⊢
  rw [hBB] at hB ⊢
  have HNE : Hid (C ≠ B ∧ w.heap.size ≤ B ∧ w.heap.size ≤ C) := Lib.hid (by omega)
  clear hBB hCC
  obtain ⟨-, -, -, -, -, -, -, -, b8⟩ := fr_cells hB
  have f8 := fr_free hB 8
  go_upto_region 2 with fail
  have hkx := keepX_set w0 B 8 (.string XC)
  have hb := fr_data hB XC
  have hc := fr_x hC hkx HNE.out.1
  have K' := Lib.hid (K.out.byX hkx HNE.out.2.1)
  clear hB hC K hkx b8 f8
  generalize w0.setCell ⟨B, 8, none⟩ (.string XC) = w1 at *
  go_wp2_with (first | (refine wpList_load_row rfl 23 _ rfl B rfl 23 #[.int .i64 D, .int .i64 S, .bool T, .int .i64 P, .int .i64 V, .bool Q, .int .i64 N, .int .i64 Y, .string XC] (0, 0) _ hb Try.underlying23 rfl info_frame ?_) | (refine wpList_store_row rfl 23 _ _ rfl C rfl 23 _ #[.int .i64 D, .int .i64 S, .bool T, .int .i64 P, .int .i64 V, .bool Q, .int .i64 N, .int .i64 Y, .string XC] rfl hc rfl (fr_one _ _ _ _ _ _ _ _ _) info_frame ?_))
  have hg := setRow_heap _ C _ #[.int .i64 D, .int .i64 S, .bool T, .int .i64 P, .int .i64 V, .bool Q, .int .i64 N, .int .i64 Y, .string XC] _ _ hc
  exact bodyPost_ret (v := .agg #[.int .i64 D, .int .i64 S, .bool T, .int .i64 P, .int .i64 V, .bool Q, .int .i64 N, .int .i64 Y, .string XC]) (results_cell_row Try.results10 _ _ C _ #[.int .i64 D, .int .i64 S, .bool T, .int .i64 P, .int .i64 V, .bool Q, .int .i64 N, .int .i64 Y, .string XC] _ _ rfl hg Try.underlying23 rfl info_frame) rfl ⟨rfl, K'.out.setRow HNE.out.2.2 _⟩
end Go.Proofs.Ytmgnmkdjphnaoaa
