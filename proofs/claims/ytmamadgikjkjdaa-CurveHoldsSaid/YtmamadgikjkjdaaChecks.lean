/- What between and Check of the package bucket return, and Right and Check of the reference, at every bucket. -/
import Derived.Test.YtmamadgikjkjdaaTMath
import Derived.Test.YtmamadgikjkjdaaKeep
import Derived.WalkKit
import Derived.ProofKit
import Derived.Handy
import Derived.WalkSpells
import Derived.Lib.Hide
namespace Go.Proofs.Ytmamadgikjkjdaa
open Go Go.RowKit

def Res (v : Value) (w : World) (e : Ending) (w' : World) : Prop := e = .returned v ∧ Keep w w'

theorem between_is (lo n hi : Int) (w : World) (b : Bool) (H : Hid ((decide (lo ≤ n) && decide (n ≤ hi)) = b)) :
    Calls Try.prog 48 #[.int .i64 lo, .int .i64 n, .int .i64 hi] w fun e w' => e = .returned (.bool b) ∧ w' = w := by
  by_cases h1 : lo ≤ n
  · by_cases h2 : n ≤ hi
    · obtain rfl : b = true := by rw [← H.out]; simp [h1, h2]
      clear H
      go_enter Try.func48, Try.ntmps48
      go_wp2
      go_ret
      exact ⟨rfl, rfl⟩
    · obtain rfl : b = false := by rw [← H.out]; simp [h1, h2]
      clear H
      have h2' : hi < n := by omega
      go_enter Try.func48, Try.ntmps48
      go_wp2
      go_ret
      exact ⟨rfl, rfl⟩
  · obtain rfl : b = false := by rw [← H.out]; simp [h1]
    clear H
    have h1' : n < lo := by omega
    go_enter Try.func48, Try.ntmps48
    go_wp2
    go_ret
    exact ⟨rfl, rfl⟩

def checkE (B R : Int) : Int := if okBk B R then 0 else 130

theorem check_any (B R : Int) (w : World) : Calls Try.prog 24 #[.agg #[.int .i64 B, .int .i64 R]] w (Res (.int .i64 (checkE B R)) w) := by
  cases hb : (decide (1 ≤ B) && decide (B ≤ 1048576)) with
  | false =>
    have e : checkE B R = 130 := by unfold checkE okBk; simp at hb; rw [if_neg]; simp; omega
    rw [e]
    have HB := Lib.hid hb
    clear hb e
    go_enter Try.func24, Try.ntmps24
    go_wp2_with (go_at_call 48; ((with_reducible refine (between_is 1 B 1048576 _ _ HB).mono ?_); rintro e w' ⟨rfl, rfl⟩))
    go_ret
    exact ⟨rfl, keepOf (by go_grown)⟩
  | true =>
    cases hr : (decide (1 ≤ R) && decide (R ≤ 2097152)) with
    | false =>
      have e : checkE B R = 130 := by unfold checkE okBk; simp at hb hr; rw [if_neg]; simp; omega
      rw [e]
      have HB := Lib.hid hb
      have HR := Lib.hid hr
      clear hb hr e
      go_enter Try.func24, Try.ntmps24
      go_wp2_with (first | (go_at_call 48; ((with_reducible refine (between_is 1 B 1048576 _ _ HB).mono ?_); rintro e w' ⟨rfl, rfl⟩)) | (go_at_call 48; ((with_reducible refine (between_is 1 R 2097152 _ _ HR).mono ?_); rintro e w' ⟨rfl, rfl⟩)))
      go_ret
      exact ⟨rfl, keepOf (by go_grown)⟩
    | true =>
      have e : checkE B R = 0 := by unfold checkE okBk; simp at hb hr; rw [if_pos]; simp; omega
      rw [e]
      have HB := Lib.hid hb
      have HR := Lib.hid hr
      clear hb hr e
      go_enter Try.func24, Try.ntmps24
      go_wp2_with (first | (go_at_call 48; ((with_reducible refine (between_is 1 B 1048576 _ _ HB).mono ?_); rintro e w' ⟨rfl, rfl⟩)) | (go_at_call 48; ((with_reducible refine (between_is 1 R 2097152 _ _ HR).mono ?_); rintro e w' ⟨rfl, rfl⟩)))
      go_ret
      exact ⟨rfl, keepOf (by go_grown)⟩

theorem right_any (B R : Int) (w : World) : Calls Try.prog 58 #[.agg #[.int .i64 B, .int .i64 R]] w (Res (.bool (okBk B R)) w) := by
  have e : okBk B R = (decide (1 ≤ B) && (decide (B ≤ 1048576) && (decide (1 ≤ R) && decide (R ≤ 2097152)))) := by unfold okBk; simp
  rw [e]; clear e
  by_cases h1 : 1 ≤ B
  · by_cases h2 : B ≤ 1048576
    · by_cases h3 : 1 ≤ R
      · by_cases h4 : R ≤ 2097152
        · rw [decide_eq_true h1, decide_eq_true h2, decide_eq_true h3, decide_eq_true h4]
          go_enter Try.func58, Try.ntmps58
          go_wp2
          go_ret
          exact ⟨rfl, keepOf (by go_grown)⟩
        · rw [decide_eq_true h1, decide_eq_true h2, decide_eq_true h3, decide_eq_false h4]
          have h4' : 2097152 < R := by omega
          go_enter Try.func58, Try.ntmps58
          go_wp2
          go_ret
          exact ⟨rfl, keepOf (by go_grown)⟩
      · rw [decide_eq_true h1, decide_eq_true h2, decide_eq_false h3]
        have h3' : R < 1 := by omega
        go_enter Try.func58, Try.ntmps58
        go_wp2
        go_ret
        exact ⟨rfl, keepOf (by go_grown)⟩
    · rw [decide_eq_true h1, decide_eq_false h2]
      have h2' : 1048576 < B := by omega
      go_enter Try.func58, Try.ntmps58
      go_wp2
      go_ret
      exact ⟨rfl, keepOf (by go_grown)⟩
  · rw [decide_eq_false h1]
    have h1' : B < 1 := by omega
    go_enter Try.func58, Try.ntmps58
    go_wp2
    go_ret
    exact ⟨rfl, keepOf (by go_grown)⟩

end Go.Proofs.Ytmamadgikjkjdaa
