/- The chapter's examples: works of isochronlaw06 answers true. -/
import Derived.Test.YtmpnmodicigcmaaCFlip
namespace Go.Proofs.Ytmpnmodicigcmaa
open Go Go.RowKit

set_option maxRecDepth 100000 in
theorem works_any (w : World) : Calls Try.prog 20 #[] w (Res (.bool true) w) := by
  have P1_0 : Hid ((⟨#[49, 50, 51, 52, 53, 54, 55, 56, 57]⟩ : ByteArray).size ≤ maxLen) := Lib.hid (by decide)
  have P1_1 : Hid (cv (extB 0#32 (⟨#[49, 50, 51, 52, 53, 54, 55, 56, 57]⟩ : ByteArray).data.toList) = 3421780262) := (Lib.hid (by kernel_rfl))
  have P2_0 : Hid ((⟨#[]⟩ : ByteArray).size ≤ maxLen) := Lib.hid (by decide)
  have P2_1 : Hid (cv (extB 0#32 (⟨#[]⟩ : ByteArray).data.toList) = 0) := (Lib.hid (by kernel_rfl))
  have P3_0 : Hid ((⟨#[97]⟩ : ByteArray).size ≤ maxLen) := Lib.hid (by decide)
  have P3_1 : Hid (cv (extB 0#32 (⟨#[97]⟩ : ByteArray).data.toList) = 3904355907) := (Lib.hid (by kernel_rfl))
  have P4_0 : Hid ((⟨#[49, 50, 51, 52]⟩ : ByteArray).size ≤ maxLen) := Lib.hid (by decide)
  have P4_1 : Hid (cv (extB 0#32 (⟨#[49, 50, 51, 52]⟩ : ByteArray).data.toList) = 2615402659) := (Lib.hid (by kernel_rfl))
  have P5_0 : Hid ((0 : Int) ≤ 2615402659 ∧ (2615402659 : Int) < 4294967296) := Lib.hid (by decide)
  have P5_1 : Hid ((⟨#[53, 54, 55, 56, 57]⟩ : ByteArray).size ≤ maxLen) := Lib.hid (by decide)
  have P5_2 : Hid (cv (extB (bvOf 2615402659) (⟨#[53, 54, 55, 56, 57]⟩ : ByteArray).data.toList) = 3421780262) := (Lib.hid (by kernel_rfl))
  have P6_0 : Hid ((0 : Int) ≤ 3421780262 ∧ (3421780262 : Int) < 4294967296) := Lib.hid (by decide)
  have P6_1 : Hid (octS 3421780262 = ⟨#[38, 57, 244, 203]⟩) := (Lib.hid (by kernel_rfl))
  have P7_0 : Hid ((⟨#[97]⟩ : ByteArray).size ≤ 100000) := Lib.hid (by decide)
  have P7_1 : Hid (sealG ⟨#[97]⟩ 0#32 = ⟨#[97, 67, 190, 183, 232]⟩) := (Lib.hid (by kernel_rfl))
  have P8_0 : Hid ((⟨#[97, 67, 190, 183, 232]⟩ : ByteArray).size ≤ 100000) := Lib.hid (by decide)
  have P8_1 : Hid (goodS ⟨#[97, 67, 190, 183, 232]⟩ 0#32 = true) := (Lib.hid (by kernel_rfl))
  have P9_0 : Hid ((⟨#[97]⟩ : ByteArray).size ≤ 100000) := Lib.hid (by decide)
  have P9_1 : Hid (goodS ⟨#[97]⟩ 0#32 = false) := (Lib.hid (by kernel_rfl))
  have P10_0 : Hid ((⟨#[0, 0, 0, 0]⟩ : ByteArray).size ≤ 100000) := Lib.hid (by decide)
  have P10_1 : Hid (goodS ⟨#[0, 0, 0, 0]⟩ 0#32 = true) := (Lib.hid (by kernel_rfl))
  have P11_0 : Hid ((⟨#[97]⟩ : ByteArray).size ≤ 100000) := Lib.hid (by decide)
  have P11_1 : Hid (sealG ⟨#[97]⟩ unf = ⟨#[97, 67, 190, 72, 23]⟩) := (Lib.hid (by kernel_rfl))
  have P12_0 : Hid ((⟨#[97, 67, 190, 72, 23]⟩ : ByteArray).size ≤ 100000) := Lib.hid (by decide)
  have P12_1 : Hid (goodS ⟨#[97, 67, 190, 72, 23]⟩ unf = true) := (Lib.hid (by kernel_rfl))
  have P13_0 : Hid ((⟨#[97, 67, 190, 183, 232]⟩ : ByteArray).size ≤ 100000) := Lib.hid (by decide)
  have P13_1 : Hid (goodS ⟨#[97, 67, 190, 183, 232]⟩ unf = false) := (Lib.hid (by kernel_rfl))
  go_enter Try.func20, Try.ntmps20
  go_wp2_with (first | (go_at_call 10; ((with_reducible refine (of_is 3421780262 ⟨#[49, 50, 51, 52, 53, 54, 55, 56, 57]⟩ _ (P1_0).out P1_1).mono ?_); rintro e' w1 ⟨rfl, k1⟩)) | (go_at_call 10; ((with_reducible refine (of_is 0 ⟨#[]⟩ _ (P2_0).out P2_1).mono ?_); rintro e' w2 ⟨rfl, k2⟩)) | (go_at_call 10; ((with_reducible refine (of_is 3904355907 ⟨#[97]⟩ _ (P3_0).out P3_1).mono ?_); rintro e' w3 ⟨rfl, k3⟩)) | (go_at_call 10; ((with_reducible refine (of_is 2615402659 ⟨#[49, 50, 51, 52]⟩ _ (P4_0).out P4_1).mono ?_); rintro e' w4 ⟨rfl, k4⟩)) | (go_at_call 12; ((with_reducible refine (ext_is 2615402659 3421780262 ⟨#[53, 54, 55, 56, 57]⟩ _ (P5_0).out (P5_1).out P5_2).mono ?_); rintro e' w5 ⟨rfl, k5⟩)) | (go_at_call 14; ((with_reducible refine (octets_is 3421780262 ⟨#[38, 57, 244, 203]⟩ _ (P6_0).out P6_1).mono ?_); rintro e' w6 ⟨rfl, k6⟩)) | (go_at_call 16; ((with_reducible refine (seal_is ⟨#[97]⟩ ⟨#[97, 67, 190, 183, 232]⟩ _ (P7_0).out P7_1).mono ?_); rintro e' w7 ⟨rfl, k7⟩)) | (go_at_call 22; ((with_reducible refine (good_is ⟨#[97, 67, 190, 183, 232]⟩ true _ (P8_0).out P8_1).mono ?_); rintro e' w8 ⟨rfl, k8⟩)) | (go_at_call 22; ((with_reducible refine (good_is ⟨#[97]⟩ false _ (P9_0).out P9_1).mono ?_); rintro e' w9 ⟨rfl, k9⟩)) | (go_at_call 22; ((with_reducible refine (good_is ⟨#[0, 0, 0, 0]⟩ true _ (P10_0).out P10_1).mono ?_); rintro e' w10 ⟨rfl, k10⟩)) | (go_at_call 18; ((with_reducible refine (mark_is ⟨#[97]⟩ ⟨#[97, 67, 190, 72, 23]⟩ _ (P11_0).out P11_1).mono ?_); rintro e' w11 ⟨rfl, k11⟩)) | (go_at_call 24; ((with_reducible refine (marked_is ⟨#[97, 67, 190, 72, 23]⟩ true _ (P12_0).out P12_1).mono ?_); rintro e' w12 ⟨rfl, k12⟩)) | (go_at_call 24; ((with_reducible refine (marked_is ⟨#[97, 67, 190, 183, 232]⟩ false _ (P13_0).out P13_1).mono ?_); rintro e' w13 ⟨rfl, k13⟩)))
  go_ret
  refine ⟨rfl, ?_⟩
  (repeat (first | exact Keep.refl _ | assumption | (refine Keep.trans ?_ (by assumption))))
end Go.Proofs.Ytmpnmodicigcmaa
