/- The seven strings of the last loop: what is read from the array, joined, cut, sealed. -/
import Derived.Test.YtmgnmkdjphnaoaaFKnMath
import Derived.Test.YtmgnmkdjphnaoaaCSlice
namespace Go.Proofs.Ytmgnmkdjphnaoaa
open Go Go.RowKit

def Seven (z60 : ByteArray) : Prop := ∀ j : Nat, j < 7 → ∃ h a1 a2 a3 t : ByteArray, (∀ wy, (Instr.index 55 (.agg #[.string ⟨#[5, 221]⟩, .string ⟨#[5, 255]⟩, .string ⟨#[0, 0, 1]⟩, .string ⟨#[129, 0, 15, 255, 8, 0]⟩, .string ⟨#[129, 0, 16, 0, 8, 0]⟩, .string ⟨#[241, 193, 0, 1, 0, 0, 8, 0]⟩, .string ⟨#[129, 0, 0, 1, 129, 0]⟩]) (.int .i64 j)).run Try.prog wy = .ok (.string h) wy) ∧ ⟨#[0, 0, 0, 0, 0, 1, 0, 0, 0, 0, 0, 2]⟩ ++ h = a1 ∧ a1 ++ z60 = a2 ∧ (∀ wy, (Instr.slice 9 (.string a2) none (some (.int .i64 60)) none).run Try.prog wy = .ok (.string a3) wy) ∧ (h.size ≤ 8 ∧ a1.size ≤ 20 ∧ a3.size ≤ 60 ∧ t.size ≤ 100) ∧ Hid (sealG a3 0#32 = t) ∧ Hid (badB t = true)
theorem seven_key (z60 : ByteArray) (hz : repS 0 60 = z60) : ∀ h ∈ hs7, ∃ a1 a2 a3 t : ByteArray, knHead ++ h = a1 ∧ a1 ++ z60 = a2 ∧ (∀ wy, (Instr.slice 9 (.string a2) none (some (.int .i64 60)) none).run Try.prog wy = .ok (.string a3) wy) ∧ (h.size ≤ 8 ∧ a1.size ≤ 20 ∧ a3.size ≤ 60 ∧ t.size ≤ 100) ∧ Hid (sealG a3 0#32 = t) ∧ Hid (badB t = true) := by
  have hzs : z60.size = 60 := by rw [← hz]; exact repS_size _ _
  intro h hh
  obtain ⟨hb, hs⟩ := hs7_bad h hh
  have hls : knHead.size = 12 := rfl
  refine ⟨knHead ++ h, knHead ++ h ++ z60, (knHead ++ h ++ z60).extract 0 60, _, rfl, rfl, fun wy => slice_to _ 60 (by rw [ByteArray.size_append, hzs]; omega) wy, ⟨hs, by rw [ByteArray.size_append]; omega, by rw [ByteArray.size_extract]; omega, ?_⟩, Lib.hid rfl, Lib.hid ?_⟩
  · rw [sealG_size, ByteArray.size_extract]; omega
  · rw [← hz]; exact hb
theorem head_room (h : ByteArray) (hh : h.size ≤ 8) : ¬ 9223372036854775807 < (⟨#[0, 0, 0, 0, 0, 1, 0, 0, 0, 0, 0, 2]⟩ : ByteArray).size + h.size := by
  have : knHead.size = 12 := rfl
  show ¬ 9223372036854775807 < knHead.size + h.size
  omega
theorem seven_is (z60 : ByteArray) (hz : repS 0 60 = z60) : Seven z60 := by
  have key := seven_key z60 hz
  intro j hj
  have : j = 0 ∨ j = 1 ∨ j = 2 ∨ j = 3 ∨ j = 4 ∨ j = 5 ∨ j = 6 := by omega
  rcases this with rfl | rfl | rfl | rfl | rfl | rfl | rfl
  · obtain ⟨a1, a2, a3, t, hh⟩ := key ⟨#[5, 221]⟩ (by simp [hs7])
    exact ⟨⟨#[5, 221]⟩, a1, a2, a3, t, fun wy => by kernel_rfl, hh⟩
  · obtain ⟨a1, a2, a3, t, hh⟩ := key ⟨#[5, 255]⟩ (by simp [hs7])
    exact ⟨⟨#[5, 255]⟩, a1, a2, a3, t, fun wy => by kernel_rfl, hh⟩
  · obtain ⟨a1, a2, a3, t, hh⟩ := key ⟨#[0, 0, 1]⟩ (by simp [hs7])
    exact ⟨⟨#[0, 0, 1]⟩, a1, a2, a3, t, fun wy => by kernel_rfl, hh⟩
  · obtain ⟨a1, a2, a3, t, hh⟩ := key ⟨#[129, 0, 15, 255, 8, 0]⟩ (by simp [hs7])
    exact ⟨⟨#[129, 0, 15, 255, 8, 0]⟩, a1, a2, a3, t, fun wy => by kernel_rfl, hh⟩
  · obtain ⟨a1, a2, a3, t, hh⟩ := key ⟨#[129, 0, 16, 0, 8, 0]⟩ (by simp [hs7])
    exact ⟨⟨#[129, 0, 16, 0, 8, 0]⟩, a1, a2, a3, t, fun wy => by kernel_rfl, hh⟩
  · obtain ⟨a1, a2, a3, t, hh⟩ := key ⟨#[241, 193, 0, 1, 0, 0, 8, 0]⟩ (by simp [hs7])
    exact ⟨⟨#[241, 193, 0, 1, 0, 0, 8, 0]⟩, a1, a2, a3, t, fun wy => by kernel_rfl, hh⟩
  · obtain ⟨a1, a2, a3, t, hh⟩ := key ⟨#[129, 0, 0, 1, 129, 0]⟩ (by simp [hs7])
    exact ⟨⟨#[129, 0, 0, 1, 129, 0]⟩, a1, a2, a3, t, fun wy => by kernel_rfl, hh⟩
theorem tail_is (z60 xa : ByteArray) (hz : repS 0 60 = z60) (ha : xa.size = 1501) : ∃ z59 u9 b1 b2 u10 b3 b4 u11 : ByteArray, (∀ wy, (Instr.slice 9 (.string z60) none (some (.int .i64 59)) none).run Try.prog wy = .ok (.string z59) wy) ∧ (knHead ++ ⟨#[0, 0]⟩ = b1 ∧ b1 ++ z60 = b2 ∧ knHead ++ ⟨#[8, 0]⟩ = b3 ∧ b3 ++ xa = b4) ∧ (z59.size ≤ 100000 ∧ b2.size ≤ 100000 ∧ b4.size ≤ 100000) ∧ (u9.size ≤ maxLen ∧ u10.size ≤ maxLen ∧ u11.size ≤ maxLen) ∧ (b1.size = 14 ∧ b3.size = 14 ∧ z60.size = 60) ∧ Hid (sealG z59 0#32 = u9) ∧ Hid (sealG b2 0#32 = u10) ∧ Hid (sealG b4 0#32 = u11) ∧ Hid (badB u9 = true) ∧ Hid (badB u10 = true) ∧ Hid (badB u11 = true) := by
  have hzs : z60.size = 60 := by rw [← hz]; exact repS_size _ _
  have hls : knHead.size = 12 := rfl
  have h2 : (⟨#[0, 0]⟩ : ByteArray).size = 2 := rfl
  have h3 : (⟨#[8, 0]⟩ : ByteArray).size = 2 := rfl
  refine ⟨z60.extract 0 59, _, knHead ++ ⟨#[0, 0]⟩, knHead ++ ⟨#[0, 0]⟩ ++ z60, _, knHead ++ ⟨#[8, 0]⟩, knHead ++ ⟨#[8, 0]⟩ ++ xa, _, fun wy => slice_to _ 59 (by omega) wy, ⟨rfl, rfl, rfl, rfl⟩, ⟨?_, ?_, ?_⟩, ⟨?_, ?_, ?_⟩, ⟨?_, ?_, hzs⟩, Lib.hid rfl, Lib.hid rfl, Lib.hid rfl, Lib.hid ?_, Lib.hid ?_, Lib.hid ?_⟩
  · rw [ByteArray.size_extract]; omega
  · rw [ByteArray.size_append, ByteArray.size_append]; omega
  · rw [ByteArray.size_append, ByteArray.size_append]; omega
  · rw [sealG_size, ByteArray.size_extract]; unfold maxLen; omega
  · rw [sealG_size, ByteArray.size_append, ByteArray.size_append]; unfold maxLen; omega
  · rw [sealG_size, ByteArray.size_append, ByteArray.size_append]; unfold maxLen; omega
  · rw [ByteArray.size_append]; omega
  · rw [ByteArray.size_append]; omega
  · rw [← hz]; exact bad_9
  · rw [← hz]; exact bad_10
  · exact bad_long xa ha
end Go.Proofs.Ytmgnmkdjphnaoaa
