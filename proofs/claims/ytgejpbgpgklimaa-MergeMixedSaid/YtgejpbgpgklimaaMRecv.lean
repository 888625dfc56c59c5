/- receive: all octets of a frame up to now. -/
import Derived.Test.YtgejpbgpgklimaaMMem
import Derived.Test.YtgejpbgpgklimaaCSlice
import Derived.RegionTactic
namespace Go.Proofs.Ytgejpbgpgklimaa
open Go Go.RowKit

set_option maxRecDepth 100000 in
set_option maxHeartbeats 2000000 in
theorem receive_is (R : Nat) (o : Bool) (n0 x0 : Int) (d0 d : ByteArray) (n x : Int) (w : World) (h : MgT 81 w R o n0 x0 d0) (m : Mg) (s : ByteArray) (H : Hid (recv d n x = (m, s))) :
    Calls Try.prog 63 #[.pointer (some ⟨R, 0, none⟩), .string d, .int .i64 n, .int .i64 x] w fun e w' => e = .returned (.string s) ∧ MgT 81 w' R m.on m.num m.next m.data ∧ KeepX R w w' := by
  have e := H.out
  clear H
  unfold recv at e
  obtain ⟨w1, hw1⟩ : ∃ w1, w.setRow R #[.bool false, .int .i64 0, .int .i64 0, .string ⟨#[]⟩] = w1 := ⟨_, rfl⟩
  have h1 : MgT 81 w1 R false 0 0 ⟨#[]⟩ := by rw [← hw1]; exact mg_row h _ _ _ _
  have k1 : KeepX R w w1 := by rw [← hw1]; exact keepX_row _ _ _
  by_cases hl : 1522 < d.size
  · rw [if_pos hl] at e
    cases e
    have hdl : (1522 : Int) < (d.size : Int) := by omega
    go_enter Try.func63, Try.ntmps63
    go_wp2_with (refine wpList_store_row rfl 43 _ _ rfl R rfl 81 _ #[.bool false, .int .i64 0, .int .i64 0, .string ⟨#[]⟩] rfl h rfl (mg_one _ _ _ _) info_merge ?_; rw [hw1])
    go_ret
    exact ⟨rfl, h1, k1⟩
  · rw [if_neg hl] at e
    have hdl : ¬ (1522 : Int) < (d.size : Int) := by omega
    cases hg : goodS d 0#32 with
    | true =>
      rw [hg] at e
      simp only [if_true] at e
      cases e
      have HG := Lib.hid hg
      clear hg
      go_enter Try.func63, Try.ntmps63
      go_wp2_with (first | (refine wpList_store_row rfl 43 _ _ rfl R rfl 81 _ #[.bool false, .int .i64 0, .int .i64 0, .string ⟨#[]⟩] rfl h rfl (mg_one _ _ _ _) info_merge ?_; rw [hw1]) | (go_at_call 28; ((with_reducible refine (good_is d true _ (by omega) HG).mono ?_); rintro e' w2 ⟨rfl, k2⟩)))
      go_ret
      exact ⟨rfl, mg_k h1 k2, k1.trans (k2.toX R)⟩
    | false =>
      rw [hg] at e
      simp only [Bool.false_eq_true, if_false] at e
      have HG := Lib.hid hg
      clear hg
      cases hm : goodS d unf with
      | false =>
        rw [hm] at e
        simp only [Bool.false_eq_true, if_false] at e
        cases e
        have HM := Lib.hid hm
        clear hm
        go_enter Try.func63, Try.ntmps63
        go_wp2_with (first | (refine wpList_store_row rfl 43 _ _ rfl R rfl 81 _ #[.bool false, .int .i64 0, .int .i64 0, .string ⟨#[]⟩] rfl h rfl (mg_one _ _ _ _) info_merge ?_; rw [hw1]) | (go_at_call 28; ((with_reducible refine (good_is d false _ (by omega) HG).mono ?_); rintro e' w2 ⟨rfl, k2⟩)) | (go_at_call 73; ((with_reducible refine (marked_is d false _ (by omega) HM).mono ?_); rintro e' w3 ⟨rfl, k3⟩)))
        go_ret
        exact ⟨rfl, mg_k (mg_k h1 k2) k3, (k1.trans (k2.toX R)).trans (k3.toX R)⟩
      | true =>
        have h4 : 4 ≤ d.size := by
          rcases Nat.lt_or_ge d.size 4 with h4 | h4
          · rw [goodS_short h4] at hm; cases hm
          · exact h4
        rw [hm] at e
        simp only [if_true] at e
        have HM := Lib.hid hm
        clear hm
        obtain ⟨q, hq⟩ : ∃ q : Nat, d.size - 4 = q := ⟨_, rfl⟩
        obtain ⟨y, hy⟩ : ∃ y, d.extract 0 q = y := ⟨_, rfl⟩
        rw [hq, hy] at e
        cases e
        have hqi : (d.size : Int) - 4 = (q : Int) := by omega
        have hqw : wrap64 ((d.size : Int) - 4) = (q : Int) := by unfold wrap64; omega
        have hsl : ∀ wx, (Instr.slice 9 (.string d) none (some (.int .i64 q)) none).run Try.prog wx = .ok (.string y) wx := fun wx => by rw [← hy]; exact slice_to d q (by omega) wx
        go_enter Try.func63, Try.ntmps63
        go_wp2_with (first | (refine wpList_store_row rfl 43 _ _ rfl R rfl 81 _ #[.bool false, .int .i64 0, .int .i64 0, .string ⟨#[]⟩] rfl h rfl (mg_one _ _ _ _) info_merge ?_; rw [hw1]) | (go_at_call 28; ((with_reducible refine (good_is d false _ (by omega) HG).mono ?_); rintro e' w2 ⟨rfl, k2⟩)) | (go_at_call 73; ((with_reducible refine (marked_is d true _ (by omega) HM).mono ?_); rintro e' w3 ⟨rfl, k3⟩; have h3 := mg_k (mg_k h1 k2) k3)) | (refine wpList_store_row rfl 43 _ _ rfl R rfl 81 _ #[.bool true, .int .i64 n, .int .i64 x, .string y] rfl h3 rfl (mg_one _ _ _ _) info_merge ?_))
        go_ret
        exact ⟨rfl, mg_row h3 _ _ _ _, ((k1.trans (k2.toX R)).trans (k3.toX R)).trans (keepX_row _ _ _)⟩
end Go.Proofs.Ytgejpbgpgklimaa
