/- begin and proceed. -/
import Derived.Test.YtgejpbgpgklimaaMRecv
import Derived.Deep.Cut
import Derived.Deep.DeepCutAuto
import Derived.Deep.RegionWith
import Derived.RegionTactic
import Derived.RegionCalls
import Derived.IntWalk
import Derived.WalkSmall
import Derived.BigRegion
namespace Go.Proofs.Ytgejpbgpgklimaa
open Go Go.RowKit

def RcvR (R : Nat) (m : Mg) (s : ByteArray) (w : World) (e : Ending) (w' : World) : Prop := e = .returned (.string s) ∧ MgT 81 w' R m.on m.num m.next m.data ∧ KeepX R w w'
set_option maxRecDepth 100000 in
set_option maxHeartbeats 2000000 in
theorem begin_is (R : Nat) (o : Bool) (n0 x0 : Int) (d0 : ByteArray) (S : Bool) (n c : Int) (X : ByteArray) (w : World) (h : MgT 81 w R o n0 x0 d0) (m : Mg) (s : ByteArray) (H : Hid (recv X n 0 = (m, s))) :
    Calls Try.prog 45 #[.pointer (some ⟨R, 0, none⟩), .agg #[.bool S, .int .i64 n, .int .i64 c, .string X]] w (RcvR R m s w) := by
  go_enter Try.func45, Try.ntmps45
  have h0 := mg_k h ((Keep.refl w).alloc (.cells #[.bool S, .int .i64 n, .int .i64 c, .string X] 45))
  go_wp2_with (go_at_call 63; ((with_reducible refine (receive_is R o n0 x0 d0 X n 0 _ h0 m s H).mono ?_); rintro e' w1 ⟨rfl, h1, k1⟩))
  go_ret
  exact ⟨rfl, h1, (((Keep.refl w).alloc _).toX R).trans k1⟩

set_option maxRecDepth 100000 in
set_option maxHeartbeats 4000000 in
theorem proceed_is (R : Nat) (o : Bool) (n0 x0 : Int) (d0 : ByteArray) (S : Bool) (n c : Int) (X : ByteArray) (w : World) (hs : d0.size ≤ 1518) (hx : X.size ≤ 1522) (hb : 0 ≤ x0 ∧ x0 ≤ 3) (h : MgT 81 w R o n0 x0 d0) (m : Mg) (s : ByteArray)
    (H : Hid ((if fitsB ⟨o, n0, x0, d0⟩ ⟨S, n, c, X⟩ then recv (d0 ++ X) n ((x0 + 1) % 4) else (zeroM, ⟨#[]⟩)) = (m, s))) :
    Calls Try.prog 44 #[.pointer (some ⟨R, 0, none⟩), .agg #[.bool S, .int .i64 n, .int .i64 c, .string X]] w (RcvR R m s w) := by
  have e := H.out
  clear H
  unfold fitsB at e
  dsimp only at e
  cases o with
  | false =>
    simp only [Bool.false_and, Bool.false_eq_true, if_false] at e
    cases e
    go_enter Try.func44, Try.ntmps44
    go_upto_region 1 with fail
    have k0 := (Keep.refl w).alloc (.cells #[.bool S, .int .i64 n, .int .i64 c, .string X] 45)
    have h0 := mg_k h k0
    have p0 := mg_new w 45 S n c X
    generalize hw0 : (w.alloc (.cells #[.bool S, .int .i64 n, .int .i64 c, .string X] 45)) = w0 at *
    generalize w.heap.size = B at *
    clear hw0
    obtain ⟨b0, b1, b2, b3⟩ := mg_cells p0
    obtain ⟨r0, r1, r2, r3⟩ := mg_cells h0
    have rf := mg_free h0 0
    obtain ⟨b0', b1', b2', b3'⟩ := mg_cells (show MgT 45 w0.drew B S n c X from p0)
    obtain ⟨r0', r1', r2', r3'⟩ := mg_cells (show MgT 81 w0.drew R _ _ _ _ from h0)
    go_region
    all_goals
      go_wp2_with (refine wpList_store_row rfl 43 _ _ rfl R rfl 81 _ #[.bool false, .int .i64 0, .int .i64 0, .string ⟨#[]⟩] rfl (show MgT 81 w0.drew R _ _ _ _ from h0) rfl (mg_one _ _ _ _) info_merge ?_)
      go_ret
      exact ⟨rfl, mg_row (show MgT 81 w0.drew R _ _ _ _ from h0) _ _ _ _, ((k0.drew).toX R).trans (keepX_row _ _ _)⟩
  | true =>
  by_cases hn : n0 = n
  · subst hn
    by_cases hc : x0 = c
    · subst hc
      simp only [Bool.true_and, decide_true, if_true] at e
      obtain ⟨Y, hY⟩ : ∃ Y, d0 ++ X = Y := ⟨_, rfl⟩
      obtain ⟨x1, hx1⟩ : ∃ x1, x0 + 1 = x1 := ⟨_, rfl⟩
      obtain ⟨x2, hx2⟩ : ∃ x2, x1 % 4 = x2 := ⟨_, rfl⟩
      rw [hY, hx1, hx2] at e
      have HE := Lib.hid e
      clear e
      have HBB : Hid (¬ 9223372036854775807 < d0.size + X.size) := Lib.hid (by omega)
      have hw1 : wrap64 (x0 + 1) = x1 := by unfold wrap64; omega
      have hw2 : IntKind.i64.wrap (x0 + 1) = x1 := by rw [IntWalk.i64_in _ (by omega)]; exact hx1
      have ht2 : x1.tmod 4 = x2 := by rw [Int.tmod_eq_emod_of_nonneg (by omega), hx2]
      have hw5 : IntKind.i64.wrap x1 = x1 := IntWalk.i64_in _ (by omega)
      have hw3 : IntKind.i64.wrap x2 = x2 := IntWalk.i64_in _ (by omega)
      have hw4 : wrap64 x2 = x2 := by unfold wrap64; omega
      have hbb := HBB.out
      go_enter Try.func44, Try.ntmps44
      go_upto_region 1 with fail
      have k0 := (Keep.refl w).alloc (.cells #[.bool S, .int .i64 n0, .int .i64 x0, .string X] 45)
      have h0 := mg_k h k0
      have p0 := mg_new w 45 S n0 x0 X
      generalize hw0 : (w.alloc (.cells #[.bool S, .int .i64 n0, .int .i64 x0, .string X] 45)) = w0 at *
      generalize w.heap.size = B at *
      clear hw0
      obtain ⟨b0, b1, b2, b3⟩ := mg_cells p0
      obtain ⟨r0, r1, r2, r3⟩ := mg_cells h0
      have rf := mg_free h0 0
      obtain ⟨b0', b1', b2', b3'⟩ := mg_cells (show MgT 45 w0.drew B S n0 x0 X from p0)
      obtain ⟨r0', r1', r2', r3'⟩ := mg_cells (show MgT 81 w0.drew R _ _ _ _ from h0)
      go_region
      go_upto_region 4 with fail
      have p2 : MgT 45 w0.drew.drew B S n0 x0 X := p0
      have h2 : MgT 81 w0.drew.drew R true n0 x0 d0 := h0
      obtain ⟨b0'', b1'', b2'', b3''⟩ := mg_cells p2
      obtain ⟨r0'', r1'', r2'', r3''⟩ := mg_cells h2
      go_region_with (go_at_call 63; ((with_reducible refine (receive_is R true n0 x0 d0 Y n0 x2 _ h2 m s HE).mono ?_); rintro e' w1 ⟨rfl, h1, k1⟩))
      all_goals
        go_wp2
        go_ret
        exact ⟨rfl, h1, ((k0.drew.drew).toX R).trans k1⟩
    · have hcb : (x0 == c) = false := by simp [hc]
      simp only [Bool.true_and, decide_true, decide_eq_false hc, Bool.false_eq_true, if_false] at e
      cases e
      go_enter Try.func44, Try.ntmps44
      go_upto_region 1 with fail
      have k0 := (Keep.refl w).alloc (.cells #[.bool S, .int .i64 n0, .int .i64 c, .string X] 45)
      have h0 := mg_k h k0
      have p0 := mg_new w 45 S n0 c X
      generalize hw0 : (w.alloc (.cells #[.bool S, .int .i64 n0, .int .i64 c, .string X] 45)) = w0 at *
      generalize w.heap.size = B at *
      clear hw0
      obtain ⟨b0, b1, b2, b3⟩ := mg_cells p0
      obtain ⟨r0, r1, r2, r3⟩ := mg_cells h0
      have rf := mg_free h0 0
      obtain ⟨b0', b1', b2', b3'⟩ := mg_cells (show MgT 45 w0.drew B S n0 c X from p0)
      obtain ⟨r0', r1', r2', r3'⟩ := mg_cells (show MgT 81 w0.drew R _ _ _ _ from h0)
      go_region
      all_goals
        go_wp2_with (refine wpList_store_row rfl 43 _ _ rfl R rfl 81 _ #[.bool false, .int .i64 0, .int .i64 0, .string ⟨#[]⟩] rfl (show MgT 81 w0.drew R _ _ _ _ from h0) rfl (mg_one _ _ _ _) info_merge ?_)
        go_ret
        exact ⟨rfl, mg_row (show MgT 81 w0.drew R _ _ _ _ from h0) _ _ _ _, ((k0.drew).toX R).trans (keepX_row _ _ _)⟩
  · have hnb : (n0 == n) = false := by simp [hn]
    have hnb2 : (n0 != n) = true := by simp [hn]
    have hnb3 : decide (n0 = n) = false := by simp [hn]
    simp only [Bool.true_and, decide_eq_false hn, Bool.false_and, Bool.false_eq_true, if_false] at e
    cases e
    go_enter Try.func44, Try.ntmps44
    go_upto_region 1 with fail
    have k0 := (Keep.refl w).alloc (.cells #[.bool S, .int .i64 n, .int .i64 c, .string X] 45)
    have h0 := mg_k h k0
    have p0 := mg_new w 45 S n c X
    generalize hw0 : (w.alloc (.cells #[.bool S, .int .i64 n, .int .i64 c, .string X] 45)) = w0 at *
    generalize w.heap.size = B at *
    clear hw0
    obtain ⟨b0, b1, b2, b3⟩ := mg_cells p0
    obtain ⟨r0, r1, r2, r3⟩ := mg_cells h0
    have rf := mg_free h0 0
    obtain ⟨b0', b1', b2', b3'⟩ := mg_cells (show MgT 45 w0.drew B S n c X from p0)
    obtain ⟨r0', r1', r2', r3'⟩ := mg_cells (show MgT 81 w0.drew R _ _ _ _ from h0)
    go_region
    all_goals
      go_wp2_with (refine wpList_store_row rfl 43 _ _ rfl R rfl 81 _ #[.bool false, .int .i64 0, .int .i64 0, .string ⟨#[]⟩] rfl (show MgT 81 w0.drew R _ _ _ _ from h0) rfl (mg_one _ _ _ _) info_merge ?_)
      go_ret
      exact ⟨rfl, mg_row (show MgT 81 w0.drew R _ _ _ _ from h0) _ _ _ _, ((k0.drew).toX R).trans (keepX_row _ _ _)⟩
end Go.Proofs.Ytgejpbgpgklimaa
