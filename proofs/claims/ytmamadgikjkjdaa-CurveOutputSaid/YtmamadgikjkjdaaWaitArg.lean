/- A slice of uint32 that came in: opened. Nothing is said of the program here. -/
import Derived.Test.YtmamadgikjkjdaaLawOutput
import Derived.Test.YtmamadgikjkjdaaDraftArg
namespace Go.Proofs.Ytmamadgikjkjdaa
open Go Go.Joins Go.ChangeShapes Go.WideShapes Go.ChangeAt Go.RowKit Go.Deep
variable {H : Type} {enc : TypeId × Value → H} {W : World} {base : Nat}

set_option maxRecDepth 100000 in
theorem waits_in {v : Value} {d : DataW H} {p : List MemPlace} (hv : Value.okWide Try.prog W .any base 83 v) (h : DataW.Trod enc Try.prog W 0 (fun _ => true) true 83 v d p) :
    ∃ a n cap zs, v = .slice a n cap ∧ WaitAt W a n zs := by
  obtain ⟨a0, len, cap, rfl⟩ := okWide_slice Try.underlying83 hv
  obtain ⟨fuel, hf⟩ := h
  rcases open_ints Try.underlying83 Try.underlying22 (by kernel_rfl) hf with ⟨hcs, -⟩ | ⟨a, len', cap', zs, hcs, -, hl, hm, hz, -, hcell, hwf⟩
  · simp [Value.cells] at hcs
    obtain ⟨rfl, rfl, rfl⟩ := hcs
    exact ⟨none, 0, 0, fun _ => 0, rfl, by omega, fun j hj => by omega⟩
  · simp [Value.cells] at hcs
    obtain ⟨rfl, rfl, rfl⟩ := hcs
    obtain ⟨b, off, spot⟩ := a
    have hs : spot = none := by
      simp only [Value.okWide, Try.underlying83, Cell.okWide, Cell.ok] at hv
      exact hv.2.2.2.1
    subst hs
    simp only [if_true] at hz
    refine ⟨_, len, cap, fun j => zs.getD j 0, rfl, by unfold maxLen at hm; omega, fun j hj => ⟨b, off, rfl, ?_, ?_⟩⟩
    · have hcj := hcell j (by omega)
      have ea : (⟨b, off, none⟩ : Addr).add j = ⟨b, off + j, none⟩ := by unfold Addr.add; split <;> simp_all
      rw [ea] at hcj
      exact hcj
    · have hz' : j < zs.length := by omega
      have := u32_bd (hwf _ (List.getElem_mem hz'))
      simpa [List.getD, hz'] using this
end Go.Proofs.Ytmamadgikjkjdaa
