/- A draft that came in by value: opened. Nothing is said of the program's code here. -/
import Derived.Test.YtaknbjjcgcmdlaaDraft
import Derived.Test.YtaknbjjcgcmdlaaKeepPost
import Derived.Lib.SmallJoins
import Derived.ProofKit
namespace Go.Proofs.Ytaknbjjcgcmdlaa
open Go Go.Joins Go.ChangeShapes Go.WideShapes Go.ChangeAt Go.RowKit Go.Deep
variable {H : Type} {enc : TypeId × Value → H} {W : World} {base : Nat}

set_option maxRecDepth 100000 in
theorem u16_in {n : Nat} {v : Value} {y : DataW H × List MemPlace} (hc : Cell.okWide Try.prog W .any base 23 v) (h : DataW.trod enc Try.prog W 0 (fun _ => true) true n 23 [v] = some y) :
    ∃ l, U16At W v l := by
  rcases open_ints Try.underlying23 Try.underlying59 (by kernel_rfl) h with ⟨hcs, -⟩ | ⟨a, len, cap, zs, hcs, -, hl, hm, hz, -, hcell, hwf⟩
  · simp at hcs
    subst hcs
    exact ⟨[], fun z hz => by simp at hz, Or.inl ⟨rfl, rfl⟩⟩
  · simp at hcs
    subst hcs
    obtain ⟨b, off, spot⟩ := a
    have hs : spot = none := by
      simp only [Cell.okWide, Try.underlying23, Cell.ok] at hc
      exact hc.2.2.2.1
    subst hs
    simp only [if_true] at hz
    refine ⟨zs.take len, fun z hz' => ?_, Or.inr ⟨b, off, len, cap, rfl, by rw [List.length_take]; omega, by unfold maxLen at hm; omega, fun j hj => ?_⟩⟩
    · have := hwf z (List.mem_of_mem_take hz')
      simp [Lit.wf] at this
      have e1 : IntKind.u16.min = 0 := by decide
      have e2 : IntKind.u16.max = 65535 := by decide
      constructor <;> omega
    · have hcj := hcell j (by omega)
      have ea : (⟨b, off, none⟩ : Addr).add j = ⟨b, off + j, none⟩ := by unfold Addr.add; split <;> simp_all
      rw [ea] at hcj
      rw [hcj]
      simp [List.getD, hj]

set_option maxRecDepth 100000 in
theorem u32_bd {B : Int} (h : (Lit.int .u32 B).wf = true) : 0 ≤ B ∧ B ≤ 4294967295 := by
  simp [Lit.wf] at h
  have e1 : IntKind.u32.min = 0 := by decide
  have e2 : IntKind.u32.max = 4294967295 := by decide
  constructor <;> omega

set_option maxRecDepth 100000 in
theorem draft_in {v : Value} {d : DataW H} {p : List MemPlace} (hv : Value.okWide Try.prog W .any base 25 v) (h : DataW.Trod enc Try.prog W 0 (fun _ => true) true 25 v d p) :
    ∃ B R gs ss, DraftAt W v B R gs ss := by
  obtain ⟨v0, v1, v2, v3, y0, y1, y2, y3, n, rfl, -, -, h0, h1, h2, h3⟩ := open_agg4 Try.underlying25 (by kernel_rfl) (by kernel_rfl) hv h
  simp only [Value.okWide, Try.underlying25] at hv
  obtain ⟨cs, hcs, -, ts, hts, -, hcell⟩ := hv
  cases hcs
  have hts' : Try.prog.cellTypes Try.prog.depth 25 = some [22, 22, 23, 23] := by kernel_rfl
  rw [hts'] at hts
  cases hts
  obtain ⟨B, e0, -, w0⟩ := DataW.trod_int Try.underlying22 h0
  obtain ⟨R, e1, -, w1⟩ := DataW.trod_int Try.underlying22 h1
  simp at e0 e1
  subst e0 e1
  obtain ⟨t2, k2, c2⟩ := hcell 2 v2 rfl
  obtain ⟨t3, k3, c3⟩ := hcell 3 v3 rfl
  simp at k2 k3
  subst k2 k3
  obtain ⟨gs, hg⟩ := u16_in c2 h2
  obtain ⟨ss, hs⟩ := u16_in c3 h3
  exact ⟨B, R, gs, ss, ⟨v2, v3, rfl, hg, hs⟩, u32_bd w0, u32_bd w1⟩

end Go.Proofs.Ytaknbjjcgcmdlaa
