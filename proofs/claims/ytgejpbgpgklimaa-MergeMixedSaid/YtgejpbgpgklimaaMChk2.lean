/- What Check and CheckPiece return, and the reference's Right and RightPiece. -/
import Derived.Test.YtgejpbgpgklimaaMChk
namespace Go.Proofs.Ytgejpbgpgklimaa
open Go Go.RowKit

theorem toList_nil (z : ByteArray) : z.toList = [] ↔ z.size = 0 := by
  rw [ByteArray.toList_eq]
  exact List.length_eq_zero_iff.symm
set_option maxRecDepth 100000 in
theorem check_is (on : Bool) (n x : Int) (D : ByteArray) (r : Int) (w : World) (H : Hid (errM ⟨on, n, x, D⟩ = r)) : Calls Try.prog 22 #[.agg #[.bool on, .int .i64 n, .int .i64 x, .string D]] w (Res (.int .i64 r) w) := by
  go_enter Try.func22, Try.ntmps22
  go_wp2
  all_goals
    go_ret
    refine ⟨?_, (Keep.refl _).alloc _⟩
    have e := H.out
    clear H
    simp only [errM, Mg.okB, zB, inB] at e
    rw [← e]
    clear e
    simp_all [toList_nil]
    try omega
set_option maxRecDepth 100000 in
theorem checkPiece_is (S : Bool) (n c : Int) (X : ByteArray) (r : Int) (w : World) (H : Hid (errP ⟨S, n, c, X⟩ = r)) : Calls Try.prog 24 #[.agg #[.bool S, .int .i64 n, .int .i64 c, .string X]] w (Res (.int .i64 r) w) := by
  go_enter Try.func24, Try.ntmps24
  go_wp2
  all_goals
    go_ret
    refine ⟨?_, (Keep.refl _).alloc _⟩
    have e := H.out
    clear H
    simp only [errP, Pc.okB, inB] at e
    rw [← e]
    clear e
    simp_all
    try omega
set_option maxRecDepth 100000 in
theorem right_is (on : Bool) (n x : Int) (D : ByteArray) (r : Bool) (w : World) (H : Hid (Mg.okB ⟨on, n, x, D⟩ = r)) : Calls Try.prog 46 #[.agg #[.bool on, .int .i64 n, .int .i64 x, .string D]] w (Res (.bool r) w) := by
  go_enter Try.func46, Try.ntmps46
  go_wp2
  all_goals
    go_ret
    refine ⟨?_, (Keep.refl _).alloc _⟩
    have e := H.out
    clear H
    simp only [Mg.okB, zB, inB] at e
    rw [← e]
    clear e
    simp_all [toList_nil]
    try omega
set_option maxRecDepth 100000 in
theorem rightPiece_is (S : Bool) (n c : Int) (X : ByteArray) (r : Bool) (w : World) (H : Hid (Pc.okB ⟨S, n, c, X⟩ = r)) : Calls Try.prog 47 #[.agg #[.bool S, .int .i64 n, .int .i64 c, .string X]] w (Res (.bool r) w) := by
  go_enter Try.func47, Try.ntmps47
  go_wp2
  all_goals
    go_ret
    refine ⟨?_, (Keep.refl _).alloc _⟩
    have e := H.out
    clear H
    simp only [Pc.okB, inB] at e
    rw [← e]
    clear e
    simp_all
    try omega
end Go.Proofs.Ytgejpbgpgklimaa
