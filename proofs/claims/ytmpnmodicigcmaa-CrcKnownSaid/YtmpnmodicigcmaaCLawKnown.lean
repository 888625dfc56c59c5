/- CrcKnown answers true: published values, and short strings. -/
import Derived.Test.YtmpnmodicigcmaaCWorks
import Derived.Laws.IdiomStrings
import Derived.Deep.Cut
import Derived.Deep.DeepCutAuto
namespace Go.Proofs.Ytmpnmodicigcmaa
open Go Go.RowKit

def onesS (k : Nat) : ByteArray := ⟨(List.replicate k (255 : UInt8)).toArray⟩
theorem onesS_size (k) : (onesS k).size = k := by simp [onesS, ByteArray.size]
theorem onesS_succ (k) : onesS k ++ ⟨#[255]⟩ = onesS (k + 1) := by
  unfold onesS
  rw [ByteArray.mk_append_mk]
  congr 1
  apply Array.ext'
  simp [List.replicate_succ']
def zeroS : ByteArray := ⟨(List.replicate 32 (0 : UInt8)).toArray⟩
theorem make32 (w : World) : (Instr.makeSlice 37 (.int .i64 32) (.int .i64 32)).run Try.prog w = .ok (.slice (some ⟨w.heap.size, 0, none⟩) 32 32) (w.alloc (.cells (Array.replicate 32 (.int .u8 0)) 5)) := by kernel_rfl
theorem stringN (n : Nat) (w : World) : (convert 37 9 (.slice (some ⟨w.heap.size, 0, none⟩) (List.replicate n (0 : UInt8)).length n)).run Try.prog (w.alloc (.cells (Array.replicate n (.int .u8 0)) 5)) = .ok (.string ⟨(List.replicate n (0 : UInt8)).toArray⟩) (w.alloc (.cells (Array.replicate n (.int .u8 0)) 5)) :=
  run_convert_bytes_back (P := Try.prog) _ 37 9 5 ⟨w.heap.size, 0, none⟩ n (List.replicate n (0 : UInt8)) Try.underlying37 Try.underlying5 Try.underlying9 (fun j hj => by
    have hadd : (⟨w.heap.size, 0, none⟩ : Addr).add j = ⟨w.heap.size, j, none⟩ := by unfold Addr.add; split <;> simp_all
    have hj' : j < n := by simpa using hj
    rw [hadd, World.cell?_alloc_mark]
    simp [hj'])
theorem string32 (w : World) : (convert 37 9 (.slice (some ⟨w.heap.size, 0, none⟩) 32 32)).run Try.prog (w.alloc (.cells (Array.replicate 32 (.int .u8 0)) 5)) = .ok (.string zeroS) (w.alloc (.cells (Array.replicate 32 (.int .u8 0)) 5)) := stringN 32 w
set_option maxRecDepth 100000 in
set_option maxHeartbeats 1000000 in
theorem known6 (w : World) : Calls Try.prog 9 #[] w (Res (.bool true) w) := by
  have hmk := make32
  have hst := string32
  generalize Array.replicate 32 (Value.int .u8 0) = Z at hmk hst
  have HZ : Hid (zeroS = zeroS) := Lib.hid rfl
  go_enter Try.func9, Try.ntmps9
  go_wp2
  clear hmk hst
  have HK : Hid (Keep w (w.alloc (Obj.cells Z 5))) := Lib.hid ((Keep.refl w).alloc _)
  generalize w.alloc (Obj.cells Z 5) = w1 at *
  go_loop [2, 3] (fun x i => ∃ k : Nat, k ≤ 32 ∧ i = .int .i64 k ∧ x = .string (onesS k)) (fun _ i => 32 - (intOf i).toNat)
  case atStart => exact ⟨0, by omega, rfl, rfl⟩
  case round =>
    obtain ⟨k, hk, rfl, rfl⟩ := hrel
    by_cases hlt : k < 32
    · have hsz := onesS_size k
      have HS : Hid (onesS k ++ ⟨#[255]⟩ = onesS (k + 1)) := Lib.hid (onesS_succ k)
      generalize onesS k = x at *
      go_wp2
      go_round
      case rel => exact ⟨k + 1, by omega, by go_num, by rw [← HS.out]⟩
      case measure => simp [intOf]; omega
    · obtain rfl : k = 32 := by omega
      have h32 : onesS 32 = ⟨#[255, 255, 255, 255, 255, 255, 255, 255, 255, 255, 255, 255, 255, 255, 255, 255, 255, 255, 255, 255, 255, 255, 255, 255, 255, 255, 255, 255, 255, 255, 255, 255]⟩ := by kernel_rfl
      have hz32 : zeroS = ⟨#[0, 0, 0, 0, 0, 0, 0, 0, 0, 0, 0, 0, 0, 0, 0, 0, 0, 0, 0, 0, 0, 0, 0, 0, 0, 0, 0, 0, 0, 0, 0, 0]⟩ := by kernel_rfl
      rw [h32, hz32]
      clear h32 hz32 HZ
      have P1_0 : Hid ((⟨#[0, 0, 0, 0, 0, 0, 0, 0, 0, 0, 0, 0, 0, 0, 0, 0, 0, 0, 0, 0, 0, 0, 0, 0, 0, 0, 0, 0, 0, 0, 0, 0]⟩ : ByteArray).size ≤ maxLen) := Lib.hid (by decide)
      have P1_1 : Hid (cv (extB 0#32 (⟨#[0, 0, 0, 0, 0, 0, 0, 0, 0, 0, 0, 0, 0, 0, 0, 0, 0, 0, 0, 0, 0, 0, 0, 0, 0, 0, 0, 0, 0, 0, 0, 0]⟩ : ByteArray).data.toList) = 420107693) := (Lib.hid (by kernel_rfl))
      have P2_0 : Hid ((⟨#[255, 255, 255, 255, 255, 255, 255, 255, 255, 255, 255, 255, 255, 255, 255, 255, 255, 255, 255, 255, 255, 255, 255, 255, 255, 255, 255, 255, 255, 255, 255, 255]⟩ : ByteArray).size ≤ maxLen) := Lib.hid (by decide)
      have P2_1 : Hid (cv (extB 0#32 (⟨#[255, 255, 255, 255, 255, 255, 255, 255, 255, 255, 255, 255, 255, 255, 255, 255, 255, 255, 255, 255, 255, 255, 255, 255, 255, 255, 255, 255, 255, 255, 255, 255]⟩ : ByteArray).data.toList) = 4285311755) := (Lib.hid (by kernel_rfl))
      have P3_0 : Hid ((⟨#[84, 104, 101, 32, 113, 117, 105, 99, 107, 32, 98, 114, 111, 119, 110, 32, 102, 111, 120, 32, 106, 117, 109, 112, 115, 32, 111, 118, 101, 114, 32, 116, 104, 101, 32, 108, 97, 122, 121, 32, 100, 111, 103]⟩ : ByteArray).size ≤ maxLen) := Lib.hid (by decide)
      have P3_1 : Hid (cv (extB 0#32 (⟨#[84, 104, 101, 32, 113, 117, 105, 99, 107, 32, 98, 114, 111, 119, 110, 32, 102, 111, 120, 32, 106, 117, 109, 112, 115, 32, 111, 118, 101, 114, 32, 116, 104, 101, 32, 108, 97, 122, 121, 32, 100, 111, 103]⟩ : ByteArray).data.toList) = 1095738169) := (Lib.hid (by kernel_rfl))
      have P4_0 : Hid ((⟨#[97, 98, 99]⟩ : ByteArray).size ≤ maxLen) := Lib.hid (by decide)
      have P4_1 : Hid (cv (extB 0#32 (⟨#[97, 98, 99]⟩ : ByteArray).data.toList) = 891568578) := (Lib.hid (by kernel_rfl))
      have P5_0 : Hid ((⟨#[]⟩ : ByteArray).size ≤ 100000) := Lib.hid (by decide)
      have P5_1 : Hid (goodS ⟨#[]⟩ 0#32 = false) := (Lib.hid (by kernel_rfl))
      have P6_0 : Hid ((⟨#[0, 0, 0]⟩ : ByteArray).size ≤ 100000) := Lib.hid (by decide)
      have P6_1 : Hid (goodS ⟨#[0, 0, 0]⟩ 0#32 = false) := (Lib.hid (by kernel_rfl))
      have P7_0 : Hid ((⟨#[]⟩ : ByteArray).size ≤ 100000) := Lib.hid (by decide)
      have P7_1 : Hid (goodS ⟨#[]⟩ unf = false) := (Lib.hid (by kernel_rfl))
      have P8_0 : Hid ((⟨#[0, 0, 255, 255]⟩ : ByteArray).size ≤ 100000) := Lib.hid (by decide)
      have P8_1 : Hid (goodS ⟨#[0, 0, 255, 255]⟩ unf = true) := (Lib.hid (by kernel_rfl))
      have P9_0 : Hid ((⟨#[0, 0, 255, 255]⟩ : ByteArray).size ≤ 100000) := Lib.hid (by decide)
      have P9_1 : Hid (goodS ⟨#[0, 0, 255, 255]⟩ 0#32 = false) := (Lib.hid (by kernel_rfl))
      have P10_0 : Hid ((⟨#[97, 98, 99]⟩ : ByteArray).size ≤ 100000) := Lib.hid (by decide)
      have P10_1 : Hid (sealG ⟨#[97, 98, 99]⟩ 0#32 = ⟨#[97, 98, 99, 194, 65, 36, 53]⟩) := (Lib.hid (by kernel_rfl))
      have P11_0 : Hid ((⟨#[97, 98, 99]⟩ : ByteArray).size ≤ 100000) := Lib.hid (by decide)
      have P11_1 : Hid (sealG ⟨#[97, 98, 99]⟩ unf = ⟨#[97, 98, 99, 194, 65, 219, 202]⟩) := (Lib.hid (by kernel_rfl))
      have P12_0 : Hid ((0 : Int) ≤ 3421780262 ∧ (3421780262 : Int) < 4294967296) := Lib.hid (by decide)
      have P12_1 : Hid ((⟨#[]⟩ : ByteArray).size ≤ maxLen) := Lib.hid (by decide)
      have P12_2 : Hid (cv (extB (bvOf 3421780262) (⟨#[]⟩ : ByteArray).data.toList) = 3421780262) := (Lib.hid (by kernel_rfl))
      go_wp2_with (first | (go_at_call 10; ((with_reducible refine (of_is 420107693 ⟨#[0, 0, 0, 0, 0, 0, 0, 0, 0, 0, 0, 0, 0, 0, 0, 0, 0, 0, 0, 0, 0, 0, 0, 0, 0, 0, 0, 0, 0, 0, 0, 0]⟩ _ (P1_0).out P1_1).mono ?_); rintro e' w1 ⟨rfl, k1⟩)) | (go_at_call 10; ((with_reducible refine (of_is 4285311755 ⟨#[255, 255, 255, 255, 255, 255, 255, 255, 255, 255, 255, 255, 255, 255, 255, 255, 255, 255, 255, 255, 255, 255, 255, 255, 255, 255, 255, 255, 255, 255, 255, 255]⟩ _ (P2_0).out P2_1).mono ?_); rintro e' w2 ⟨rfl, k2⟩)) | (go_at_call 10; ((with_reducible refine (of_is 1095738169 ⟨#[84, 104, 101, 32, 113, 117, 105, 99, 107, 32, 98, 114, 111, 119, 110, 32, 102, 111, 120, 32, 106, 117, 109, 112, 115, 32, 111, 118, 101, 114, 32, 116, 104, 101, 32, 108, 97, 122, 121, 32, 100, 111, 103]⟩ _ (P3_0).out P3_1).mono ?_); rintro e' w3 ⟨rfl, k3⟩)) | (go_at_call 10; ((with_reducible refine (of_is 891568578 ⟨#[97, 98, 99]⟩ _ (P4_0).out P4_1).mono ?_); rintro e' w4 ⟨rfl, k4⟩)) | (go_at_call 22; ((with_reducible refine (good_is ⟨#[]⟩ false _ (P5_0).out P5_1).mono ?_); rintro e' w5 ⟨rfl, k5⟩)) | (go_at_call 22; ((with_reducible refine (good_is ⟨#[0, 0, 0]⟩ false _ (P6_0).out P6_1).mono ?_); rintro e' w6 ⟨rfl, k6⟩)) | (go_at_call 24; ((with_reducible refine (marked_is ⟨#[]⟩ false _ (P7_0).out P7_1).mono ?_); rintro e' w7 ⟨rfl, k7⟩)) | (go_at_call 24; ((with_reducible refine (marked_is ⟨#[0, 0, 255, 255]⟩ true _ (P8_0).out P8_1).mono ?_); rintro e' w8 ⟨rfl, k8⟩)) | (go_at_call 22; ((with_reducible refine (good_is ⟨#[0, 0, 255, 255]⟩ false _ (P9_0).out P9_1).mono ?_); rintro e' w9 ⟨rfl, k9⟩)) | (go_at_call 16; ((with_reducible refine (seal_is ⟨#[97, 98, 99]⟩ ⟨#[97, 98, 99, 194, 65, 36, 53]⟩ _ (P10_0).out P10_1).mono ?_); rintro e' w10 ⟨rfl, k10⟩)) | (go_at_call 18; ((with_reducible refine (mark_is ⟨#[97, 98, 99]⟩ ⟨#[97, 98, 99, 194, 65, 219, 202]⟩ _ (P11_0).out P11_1).mono ?_); rintro e' w11 ⟨rfl, k11⟩)) | (go_at_call 12; ((with_reducible refine (ext_is 3421780262 3421780262 ⟨#[]⟩ _ (P12_0).out (P12_1).out P12_2).mono ?_); rintro e' w12 ⟨rfl, k12⟩)) | (go_at_call 20; ((with_reducible refine (works_any _).mono ?_); rintro e' w99 ⟨rfl, k99⟩)))
      go_ret
      have k0 := HK.out
      refine ⟨rfl, ?_⟩
      (repeat (first | exact Keep.refl _ | assumption | (refine Keep.trans ?_ (by assumption))))
end Go.Proofs.Ytmpnmodicigcmaa
