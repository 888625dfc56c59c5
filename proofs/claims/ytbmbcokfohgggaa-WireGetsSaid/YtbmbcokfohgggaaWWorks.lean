/- The helpers of the laws of chapter 5, each where it answers true, and the chapter's examples. -/
import Derived.Test.YtbmbcokfohgggaaWSigned
import Derived.Test.YtbmbcokfohgggaaWPut2
namespace Go.Proofs.Ytbmbcokfohgggaa
open Go Go.RowKit

theorem beq_list (t : ByteArray) : (t.toList == t.toList) = true := by simp
set_option maxRecDepth 100000 in
theorem puts_true (s : ByteArray) (n k : Int) (t : ByteArray) (w : World) (hs : s.size ≤ 1000) (HT : Hid (putS s n k = t)) (HE : Hid (putE n k = 0)) :
    Calls Try.prog 22 #[.string s, .int .i64 n, .int .i64 k, .string t] w (Res (.bool true) w) := by
  have hbe := beq_list t
  go_enter Try.func22, Try.ntmps22
  go_wp2_with (go_at_call 8; ((with_reducible refine (wput_is s n k t 0 _ hs HT HE).mono ?_); rintro e' w1 ⟨rfl, k1⟩))
  go_ret
  exact ⟨rfl, k1⟩
set_option maxRecDepth 100000 in
theorem gets_true (s : ByteArray) (a k n : Int) (w : World) (hs : s.size ≤ maxLen) (ha : I64 a) (hk : I64 k) (HV : Hid (getV s a k = n)) (HE : Hid (getE s a k = 0)) :
    Calls Try.prog 19 #[.string s, .int .i64 a, .int .i64 k, .int .i64 n] w (Res (.bool true) w) := by
  go_enter Try.func19, Try.ntmps19
  go_wp2_with (go_at_call 13; ((with_reducible refine (get_is s a k n 0 _ hs ha hk HV HE).mono ?_); rintro e' w1 ⟨rfl, k1⟩))
  go_ret
  exact ⟨rfl, k1⟩
set_option maxRecDepth 100000 in
theorem refused_true (s : ByteArray) (a k c : Int) (w : World) (hs : s.size ≤ maxLen) (ha : I64 a) (hk : I64 k) (HV : Hid (getV s a k = 0)) (HE : Hid (getE s a k = c)) :
    Calls Try.prog 23 #[.string s, .int .i64 a, .int .i64 k, .int .i64 c] w (Res (.bool true) w) := by
  go_enter Try.func23, Try.ntmps23
  go_wp2_with (go_at_call 13; ((with_reducible refine (get_is s a k 0 c _ hs ha hk HV HE).mono ?_); rintro e' w1 ⟨rfl, k1⟩))
  go_ret
  exact ⟨rfl, k1⟩
set_option maxRecDepth 100000 in
theorem field_true (s : ByteArray) (a k : Int) (t : ByteArray) (c : Int) (w : World) (hs : s.size ≤ maxLen) (ha : I64 a) (hk : I64 k) (HV : Hid (fieldS s a k = t)) (HE : Hid (fieldE s a k = c)) :
    Calls Try.prog 20 #[.string s, .int .i64 a, .int .i64 k, .string t, .int .i64 c] w (Res (.bool true) w) := by
  have hbe := beq_list t
  go_enter Try.func20, Try.ntmps20
  go_wp2_with (go_at_call 17; ((with_reducible refine (field_is s a k t c _ hs ha hk HV HE).mono ?_); rintro e' w1 ⟨rfl, k1⟩))
  go_ret
  exact ⟨rfl, k1⟩
set_option maxRecDepth 100000 in
theorem signed_true (n k : Int) (t : ByteArray) (w : World) (hs : t.size ≤ maxLen) (hk : I64 k) (HT : Hid (sputS ⟨#[]⟩ n k = t)) (HE : Hid (sputE n k = 0)) (HV : Hid (sgetV t 0 k = n)) (HF : Hid (sgetE t 0 k = 0)) :
    Calls Try.prog 21 #[.int .i64 n, .int .i64 k, .string t] w (Res (.bool true) w) := by
  have hbe := beq_list t
  go_enter Try.func21, Try.ntmps21
  go_wp2_with (first | (go_at_call 10; ((with_reducible refine (wputSigned_is ⟨#[]⟩ n k t 0 _ (by decide) HT HE).mono ?_); rintro e' w1 ⟨rfl, k1⟩)) | (go_at_call 15; ((with_reducible refine (getSigned_is t 0 k n 0 _ hs (by unfold I64; decide) hk HV HF).mono ?_); rintro e' w2 ⟨rfl, k2⟩)))
  go_ret
  exact ⟨rfl, k1.trans k2⟩

set_option maxRecDepth 100000 in
theorem works_any (w : World) : Calls Try.prog 12 #[] w (Res (.bool true) w) := by
  go_enter Try.func12, Try.ntmps12
  go_wp2_with (first | (go_at_call 8; ((with_reducible refine (wput_is ⟨#[]⟩ 256 1 ⟨#[]⟩ 6 _ (by decide) (Lib.hid (by kernel_rfl)) (Lib.hid (by kernel_rfl))).mono ?_); rintro e' w1 ⟨rfl, k1⟩)) | (go_at_call 10; ((with_reducible refine (wputSigned_is ⟨#[]⟩ 128 1 ⟨#[]⟩ 6 _ (by decide) (Lib.hid (by kernel_rfl)) (Lib.hid (by kernel_rfl))).mono ?_); rintro e' w2 ⟨rfl, k2⟩)) | (go_at_call 22; ((with_reducible refine (puts_true ⟨#[171]⟩ 258 3 ⟨#[171, 0, 1, 2]⟩ _ (by decide) (Lib.hid (by kernel_rfl)) (Lib.hid (by kernel_rfl))).mono ?_); rintro e' w3 ⟨rfl, k3⟩)) | (go_at_call 19; ((with_reducible refine (gets_true ⟨#[171, 0, 1, 2]⟩ 1 3 258 _ (by decide) (by unfold I64; decide) (by unfold I64; decide) (Lib.hid (by kernel_rfl)) (Lib.hid (by kernel_rfl))).mono ?_); rintro e' w4 ⟨rfl, k4⟩)) | (go_at_call 23; ((with_reducible refine (refused_true ⟨#[171]⟩ 0 2 5 _ (by decide) (by unfold I64; decide) (by unfold I64; decide) (Lib.hid (by kernel_rfl)) (Lib.hid (by kernel_rfl))).mono ?_); rintro e' w5 ⟨rfl, k5⟩)) | (go_at_call 23; ((with_reducible refine (refused_true ⟨#[171]⟩ (-1) 1 2 _ (by decide) (by unfold I64; decide) (by unfold I64; decide) (Lib.hid (by kernel_rfl)) (Lib.hid (by kernel_rfl))).mono ?_); rintro e' w6 ⟨rfl, k6⟩)) | (go_at_call 23; ((with_reducible refine (refused_true ⟨#[171]⟩ 0 8 2 _ (by decide) (by unfold I64; decide) (by unfold I64; decide) (Lib.hid (by kernel_rfl)) (Lib.hid (by kernel_rfl))).mono ?_); rintro e' w7 ⟨rfl, k7⟩)) | (go_at_call 21; ((with_reducible refine (signed_true (-2) 2 ⟨#[255, 254]⟩ _ (by decide) (by unfold I64; decide) (Lib.hid (by kernel_rfl)) (Lib.hid (by kernel_rfl)) (Lib.hid (by kernel_rfl)) (Lib.hid (by kernel_rfl))).mono ?_); rintro e' w8 ⟨rfl, k8⟩)) | (go_at_call 21; ((with_reducible refine (signed_true 127 1 ⟨#[127]⟩ _ (by decide) (by unfold I64; decide) (Lib.hid (by kernel_rfl)) (Lib.hid (by kernel_rfl)) (Lib.hid (by kernel_rfl)) (Lib.hid (by kernel_rfl))).mono ?_); rintro e' w9 ⟨rfl, k9⟩)) | (go_at_call 20; ((with_reducible refine (field_true ⟨#[171, 205, 239]⟩ 1 2 ⟨#[205, 239]⟩ 0 _ (by decide) (by unfold I64; decide) (by unfold I64; decide) (Lib.hid (by kernel_rfl)) (Lib.hid (by kernel_rfl))).mono ?_); rintro e' w10 ⟨rfl, k10⟩)) | (go_at_call 20; ((with_reducible refine (field_true ⟨#[171]⟩ 1 0 ⟨#[]⟩ 0 _ (by decide) (by unfold I64; decide) (by unfold I64; decide) (Lib.hid (by kernel_rfl)) (Lib.hid (by kernel_rfl))).mono ?_); rintro e' w11 ⟨rfl, k11⟩)) | (go_at_call 20; ((with_reducible refine (field_true ⟨#[171]⟩ 1 1 ⟨#[]⟩ 5 _ (by decide) (by unfold I64; decide) (by unfold I64; decide) (Lib.hid (by kernel_rfl)) (Lib.hid (by kernel_rfl))).mono ?_); rintro e' w12 ⟨rfl, k12⟩)))
  go_ret
  exact ⟨rfl, (((((((((((k1).trans k2).trans k3).trans k4).trans k5).trans k6).trans k7).trans k8).trans k9).trans k10).trans k11).trans k12⟩
end Go.Proofs.Ytbmbcokfohgggaa
