/- What the reference's value, candidate and Decode return. -/
import Derived.Test.YtmgnmkdjphnaoaaFRefEnc
import Derived.Test.YtmgnmkdjphnaoaaFMem
import Derived.Test.YtmgnmkdjphnaoaaCSlice
import Derived.Test.YtmgnmkdjphnaoaaTail
import Derived.RegionCalls
namespace Go.Proofs.Ytmgnmkdjphnaoaa
open Go Go.RowKit

theorem vl_le (l : List UInt8) (h : l.length ≤ 7) : 0 ≤ vl l ∧ vl l < 72057594037927936 := by
  have h1 := vl_bd l
  have : (256 : Int) ^ l.length ≤ 256 ^ 7 := by
    have : l.length = 0 ∨ l.length = 1 ∨ l.length = 2 ∨ l.length = 3 ∨ l.length = 4 ∨ l.length = 5 ∨ l.length = 6 ∨ l.length = 7 := by omega
    rcases this with e | e | e | e | e | e | e | e <;> rw [e] <;> decide
  have e : (256 : Int) ^ 7 = 72057594037927936 := by decide
  omega
set_option maxRecDepth 100000 in
theorem value_any (s : ByteArray) (w : World) (hs : s.size ≤ 6) : Calls Try.prog 54 #[.string s] w fun e w' => e = .returned (.int .i64 (vl s.data.toList)) ∧ w' = w := by
  go_enter Try.func54, Try.ntmps54
  go_wp2
  go_loop [3, 4] (fun v i => ∃ k : Nat, k ≤ s.size ∧ i = .int .i64 k ∧ v = .int .i64 (vl (s.data.toList.take k))) (fun _ i => s.size - (intOf i).toNat)
  case atStart => exact ⟨0, by omega, rfl, rfl⟩
  case round =>
    obtain ⟨k, hk, rfl, rfl⟩ := hrel
    by_cases hlt : k < s.size
    · obtain ⟨o, ho⟩ : ∃ o, s[k] = o := ⟨_, rfl⟩
      have HS : Hid (vl (s.data.toList.take (k + 1)) = 256 * vl (s.data.toList.take k) + (o.toNat : Int)) := Lib.hid (by rw [take_snoc s k hlt, vl_snoc, ho])
      have hidx := fun w => index_str s k k w (o.toNat : Int) rfl hlt (by rw [ho])
      have hb := vl_le (s.data.toList.take k) (by rw [List.length_take]; omega)
      have hl : s.data.toList.length = s.size := rfl
      have hb6 := vl_bd (s.data.toList.take k)
      have ho' := o.toNat_lt
      have hp : (256 : Int) ^ (s.data.toList.take k).length ≤ 1099511627776 := by
        have : (s.data.toList.take k).length ≤ 5 := by rw [List.length_take]; omega
        have : (s.data.toList.take k).length = 0 ∨ (s.data.toList.take k).length = 1 ∨ (s.data.toList.take k).length = 2 ∨ (s.data.toList.take k).length = 3 ∨ (s.data.toList.take k).length = 4 ∨ (s.data.toList.take k).length = 5 := by omega
        rcases this with e | e | e | e | e | e <;> rw [e] <;> decide
      generalize vl (s.data.toList.take k) = x at *
      have hx : 0 ≤ x ∧ x < 1099511627776 := by omega
      have hw1 : wrap64 (256 * x) = 256 * x := by unfold wrap64; omega
      obtain ⟨z, hz⟩ : ∃ z : Int, (o.toNat : Int) = z := ⟨_, rfl⟩
      rw [hz] at hidx HS
      have hz2 : 0 ≤ z ∧ z < 256 := by omega
      have hw2 : wrap64 (256 * x + z) = 256 * x + z := by unfold wrap64; omega
      clear hb hb6 hp ho hz ho'
      go_wp2
      go_round
      case rel => exact ⟨k + 1, by omega, by go_num, by rw [HS.out]⟩
      case measure => simp [intOf]; omega
    · obtain rfl : k = s.size := by omega
      have hall : s.data.toList.take s.size = s.data.toList := List.take_of_length_le (Nat.le_of_eq rfl)
      rw [hall]
      obtain ⟨x, hx⟩ : ∃ x, vl s.data.toList = x := ⟨_, rfl⟩
      rw [hx]
      have HX := Lib.hid hx
      clear hx hall
      go_wp2
      go_ret
      exact ⟨by rw [HX.out]; rfl, rfl⟩
theorem value_is (s : ByteArray) (v : Int) (w : World) (hs : s.size ≤ 6) (H : Hid (vl s.data.toList = v)) : Calls Try.prog 54 #[.string s] w fun e w' => e = .returned (.int .i64 v) ∧ w' = w := by
  have := value_any s w hs
  rwa [H.out] at this
end Go.Proofs.Ytmgnmkdjphnaoaa
