/- Slices of strings, one bound left out. -/
import Derived.Test.YtgejpbgpgklimaaCFlip
namespace Go.Proofs.Ytgejpbgpgklimaa
open Go Go.RowKit

theorem slice_to (s : ByteArray) (q : Nat) (h : q ≤ s.size) (w : World) : (Instr.slice 9 (.string s) none (some (.int .i64 q)) none).run Try.prog w = .ok (.string (s.extract 0 q)) w := by
  have hj : 0 ≤ (q : Int) ∧ (q : Int) ≤ (s.size : Int) := by omega
  simp [Instr.slice, Instr.sliceBounds, Instr.sliceBound, asIntOf, run_underlying Try.underlying9, hj]
  intro hc
  omega
theorem slice_from (s : ByteArray) (q : Nat) (h : q ≤ s.size) (w : World) : (Instr.slice 9 (.string s) (some (.int .i64 q)) none none).run Try.prog w = .ok (.string (s.extract q s.size)) w := by
  have hj : 0 ≤ (q : Int) ∧ (q : Int) ≤ (s.size : Int) := by omega
  simp [Instr.slice, Instr.sliceBounds, Instr.sliceBound, asIntOf, run_underlying Try.underlying9, hj]
  intro hc
  omega
end Go.Proofs.Ytgejpbgpgklimaa
