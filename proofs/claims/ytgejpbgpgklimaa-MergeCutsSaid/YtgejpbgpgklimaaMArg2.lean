/- A row of integers that came in by value, with its capacity; an int8. Nothing is said of the program's code here. -/
import Derived.Test.YtgejpbgpgklimaaMArg
namespace Go.Proofs.Ytgejpbgpgklimaa
open Go Go.Joins Go.ChangeShapes Go.WideShapes Go.ChangeAt Go.RowKit Go.Deep
variable {H : Type} {enc : TypeId × Value → H} {W : World} {base : Nat}

theorem i8_bd {B : Int} (h : (Lit.int .i8 B).wf = true) : -128 ≤ B ∧ B ≤ 127 := by
  simp [Lit.wf] at h
  have e1 : IntKind.i8.min = -128 := by decide
  have e2 : IntKind.i8.max = 127 := by decide
  constructor <;> omega
set_option maxRecDepth 100000 in
theorem cuts_in2 {v : Value} {d : DataW H} {p : List MemPlace} (hv : Value.okWide Try.prog W .any base 26 v) (h : DataW.Trod enc Try.prog W 0 (fun _ => true) true 26 v d p) : ∃ a n cap zs, v = .slice a n cap ∧ n ≤ cap ∧ ListAt W (.slice a n cap) zs := by
  rcases ints_in Try.underlying26 Try.underlying3 (by kernel_rfl) hv h with rfl | ⟨b, off, len, cap, zs, rfl, hl, hm, hz, hcell, hwf⟩
  · exact ⟨none, 0, 0, [], rfl, Nat.le_refl 0, Or.inl ⟨rfl, rfl⟩⟩
  · exact ⟨_, len, cap, zs, rfl, hl, Or.inr ⟨b, off, len, cap, rfl, hz, by unfold maxLen at hm; omega, hcell⟩⟩
end Go.Proofs.Ytgejpbgpgklimaa
