/- What Check and its helpers return. -/
import Derived.Test.YtmgnmkdjphnaoaaFDef
import Derived.BigQuiet
import Derived.Deep.Cut
import Derived.Deep.DeepCutAuto
import Derived.Deep.RegionWith
import Derived.BigRegion
import Derived.IntWalk
namespace Go.Proofs.Ytmgnmkdjphnaoaa
open Go Go.RowKit

set_option maxRecDepth 100000 in
theorem upTo_any (m n : Int) (w : World) : Calls Try.prog 32 #[.int .i64 m, .int .i64 n] w fun e w' => e = .returned (.bool (upB m n)) ∧ w' = w := by
  unfold upB
  by_cases h1 : 0 ≤ n
  · by_cases h2 : n ≤ m
    · rw [show decide (0 ≤ n ∧ n ≤ m) = true from decide_eq_true ⟨h1, h2⟩]
      go_enter Try.func32, Try.ntmps32
      go_wp2
      go_ret
      exact ⟨rfl, rfl⟩
    · rw [show decide (0 ≤ n ∧ n ≤ m) = false from decide_eq_false (by omega)]
      go_enter Try.func32, Try.ntmps32
      go_wp2
      go_ret
      exact ⟨rfl, rfl⟩
  · rw [show decide (0 ≤ n ∧ n ≤ m) = false from decide_eq_false (by omega)]
    go_enter Try.func32, Try.ntmps32
    go_wp2
    go_ret
    exact ⟨rfl, rfl⟩
theorem upTo_is (m n : Int) (b : Bool) (w : World) (H : Hid (upB m n = b)) : Calls Try.prog 32 #[.int .i64 m, .int .i64 n] w fun e w' => e = .returned (.bool b) ∧ w' = w := by
  have := upTo_any m n w
  rwa [H.out] at this
set_option maxRecDepth 100000 in
theorem only_any (b : Bool) (n : Int) (w : World) : Calls Try.prog 33 #[.bool b, .int .i64 n] w fun e w' => e = .returned (.int .i64 (only b n)) ∧ w' = w := by
  unfold only
  cases b with
  | true =>
    simp only [if_true]
    go_enter Try.func33, Try.ntmps33
    go_wp2
    go_ret
    exact ⟨rfl, rfl⟩
  | false =>
    simp only [Bool.false_eq_true, if_false]
    go_enter Try.func33, Try.ntmps33
    go_wp2
    go_ret
    exact ⟨rfl, rfl⟩
theorem only_is (b : Bool) (n r : Int) (w : World) (H : Hid (only b n = r)) : Calls Try.prog 33 #[.bool b, .int .i64 n] w fun e w' => e = .returned (.int .i64 r) ∧ w' = w := by
  have := only_any b n w
  rwa [H.out] at this
set_option maxRecDepth 100000 in
theorem isType_any (n : Int) (w : World) : Calls Try.prog 34 #[.int .i64 n] w fun e w' => e = .returned (.bool (tyB n)) ∧ w' = w := by
  obtain ⟨b, hb⟩ : ∃ b, tyB n = b := ⟨_, rfl⟩
  rw [hb]
  unfold tyB at hb
  by_cases h0 : n = 0
  · obtain rfl : b = true := by rw [← hb]; exact decide_eq_true (Or.inl h0)
    clear hb
    have q0 : (n == 0) = true := by simp [h0]
    go_enter Try.func34, Try.ntmps34
    go_wp2
    go_ret
    exact ⟨rfl, rfl⟩
  · have q0 : (n == 0) = false := by simp [h0]
    by_cases h1 : 1536 ≤ n
    · by_cases h2 : n ≤ 65535
      · by_cases h3 : n = 33024
        · obtain rfl : b = false := by rw [← hb]; exact decide_eq_false (by omega)
          clear hb
          have q3 : (n != 33024) = false := by simp [h3]
          go_enter Try.func34, Try.ntmps34
          go_wp2
          go_ret
          exact ⟨rfl, rfl⟩
        · have q3 : (n != 33024) = true := by simp [h3]
          by_cases h4 : n = 61889
          · obtain rfl : b = false := by rw [← hb]; exact decide_eq_false (by omega)
            clear hb
            have q4 : (n != 61889) = false := by simp [h4]
            go_enter Try.func34, Try.ntmps34
            go_wp2
            go_ret
            exact ⟨rfl, rfl⟩
          · obtain rfl : b = true := by rw [← hb]; exact decide_eq_true (by omega)
            clear hb
            have q4 : (n != 61889) = true := by simp [h4]
            go_enter Try.func34, Try.ntmps34
            go_wp2
            go_ret
            exact ⟨rfl, rfl⟩
      · obtain rfl : b = false := by rw [← hb]; exact decide_eq_false (by omega)
        clear hb
        go_enter Try.func34, Try.ntmps34
        go_wp2
        go_ret
        exact ⟨rfl, rfl⟩
    · obtain rfl : b = false := by rw [← hb]; exact decide_eq_false (by omega)
      clear hb
      go_enter Try.func34, Try.ntmps34
      go_wp2
      go_ret
      exact ⟨rfl, rfl⟩
theorem isType_is (n : Int) (b : Bool) (w : World) (H : Hid (tyB n = b)) : Calls Try.prog 34 #[.int .i64 n] w fun e w' => e = .returned (.bool b) ∧ w' = w := by
  have := isType_any n w
  rwa [H.out] at this
end Go.Proofs.Ytmgnmkdjphnaoaa
