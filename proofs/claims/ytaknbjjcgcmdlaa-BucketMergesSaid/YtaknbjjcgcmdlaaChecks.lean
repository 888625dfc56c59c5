/- What between and Check of the package bucket return, and Right and Check of the reference, at every bucket. -/
import Derived.Test.YtaknbjjcgcmdlaaTMath
import Derived.Test.YtaknbjjcgcmdlaaKeep
import Derived.WalkKit
import Derived.ProofKit
import Derived.Handy
import Derived.WalkSpells
import Derived.Lib.Hide
namespace Go.Proofs.Ytaknbjjcgcmdlaa
open Go Go.RowKit

def Res (v : Value) (w : World) (e : Ending) (w' : World) : Prop := e = .returned v ∧ Keep w w'

theorem between_is (lo n hi : Int) (w : World) (b : Bool) (H : Hid ((decide (lo ≤ n) && decide (n ≤ hi)) = b)) :
    Calls Try.prog 18 #[.int .i64 lo, .int .i64 n, .int .i64 hi] w fun e w' => e = .returned (.bool b) ∧ w' = w := by
  by_cases h1 : lo ≤ n
  · by_cases h2 : n ≤ hi
    · obtain rfl : b = true := by rw [← H.out]; simp [h1, h2]
      clear H
      go_enter Try.func18, Try.ntmps18
      go_wp2
      go_ret
      exact ⟨rfl, rfl⟩
    · obtain rfl : b = false := by rw [← H.out]; simp [h1, h2]
      clear H
      have h2' : hi < n := by omega
      go_enter Try.func18, Try.ntmps18
      go_wp2
      go_ret
      exact ⟨rfl, rfl⟩
  · obtain rfl : b = false := by rw [← H.out]; simp [h1]
    clear H
    have h1' : n < lo := by omega
    go_enter Try.func18, Try.ntmps18
    go_wp2
    go_ret
    exact ⟨rfl, rfl⟩

def checkE (B R : Int) : Int := if okBk B R then 0 else 130

theorem check_any (B R : Int) (w : World) : Calls Try.prog 15 #[.agg #[.int .i64 B, .int .i64 R]] w (Res (.int .i64 (checkE B R)) w) := by
  cases hb : (decide (1 ≤ B) && decide (B ≤ 1048576)) with
  | false =>
    have e : checkE B R = 130 := by unfold checkE okBk; simp at hb; rw [if_neg]; simp; omega
    rw [e]
    have HB := Lib.hid hb
    clear hb e
    go_enter Try.func15, Try.ntmps15
    go_wp2_with (go_at_call 18; ((with_reducible refine (between_is 1 B 1048576 _ _ HB).mono ?_); rintro e w' ⟨rfl, rfl⟩))
    go_ret
    exact ⟨rfl, keepOf (by go_grown)⟩
  | true =>
    cases hr : (decide (1 ≤ R) && decide (R ≤ 2097152)) with
    | false =>
      have e : checkE B R = 130 := by unfold checkE okBk; simp at hb hr; rw [if_neg]; simp; omega
      rw [e]
      have HB := Lib.hid hb
      have HR := Lib.hid hr
      clear hb hr e
      go_enter Try.func15, Try.ntmps15
      go_wp2_with (first | (go_at_call 18; ((with_reducible refine (between_is 1 B 1048576 _ _ HB).mono ?_); rintro e w' ⟨rfl, rfl⟩)) | (go_at_call 18; ((with_reducible refine (between_is 1 R 2097152 _ _ HR).mono ?_); rintro e w' ⟨rfl, rfl⟩)))
      go_ret
      exact ⟨rfl, keepOf (by go_grown)⟩
    | true =>
      have e : checkE B R = 0 := by unfold checkE okBk; simp at hb hr; rw [if_pos]; simp; omega
      rw [e]
      have HB := Lib.hid hb
      have HR := Lib.hid hr
      clear hb hr e
      go_enter Try.func15, Try.ntmps15
      go_wp2_with (first | (go_at_call 18; ((with_reducible refine (between_is 1 B 1048576 _ _ HB).mono ?_); rintro e w' ⟨rfl, rfl⟩)) | (go_at_call 18; ((with_reducible refine (between_is 1 R 2097152 _ _ HR).mono ?_); rintro e w' ⟨rfl, rfl⟩)))
      go_ret
      exact ⟨rfl, keepOf (by go_grown)⟩

end Go.Proofs.Ytaknbjjcgcmdlaa
