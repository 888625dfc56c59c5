/- An array of two drafts by value, and a slice of Booleans, that came in: opened. Nothing is said of the program's code here. -/
import Derived.Test.YtaknbjjcgcmdlaaDraftArg
import Derived.Deep.Grids
namespace Go.Proofs.Ytaknbjjcgcmdlaa
open Go Go.Joins Go.ChangeShapes Go.WideShapes Go.ChangeAt Go.RowKit Go.Deep
variable {H : Type} {enc : TypeId × Value → H} {W : World} {base : Nat}

set_option maxRecDepth 100000 in
theorem array8 {α : Type} {a : Array α} (h : a.size = 8) : ∃ c0 c1 c2 c3 c4 c5 c6 c7, a = #[c0, c1, c2, c3, c4, c5, c6, c7] := by
  obtain ⟨l⟩ := a
  match l, h with
  | [c0, c1, c2, c3, c4, c5, c6, c7], _ => exact ⟨c0, c1, c2, c3, c4, c5, c6, c7, rfl⟩

set_option maxRecDepth 100000 in
theorem drafts_in {v : Value} {d : DataW H} {p : List MemPlace} (hv : Value.okWide Try.prog W .any base 26 v) (h : DataW.Trod enc Try.prog W 0 (fun _ => true) true 26 v d p) :
    ∃ c0 c1 c2 c3 c4 c5 c6 c7, v = .agg #[c0, c1, c2, c3, c4, c5, c6, c7] ∧ (∃ B R gs ss, DraftAt W (.agg #[c0, c1, c2, c3]) B R gs ss) ∧ (∃ B R gs ss, DraftAt W (.agg #[c4, c5, c6, c7]) B R gs ss) := by
  simp only [Value.okWide, Try.underlying26] at hv
  obtain ⟨cs, rfl, hsz, ts, hts, hlen, hcell⟩ := hv
  have e8 : Try.prog.cellsOf 26 = 8 := by kernel_rfl
  have e4 : Try.prog.cellsOf 25 = 4 := by kernel_rfl
  obtain ⟨c0, c1, c2, c3, c4, c5, c6, c7, rfl⟩ := array8 (hsz.trans e8)
  have hts' : Try.prog.cellTypes Try.prog.depth 26 = some [22, 22, 23, 23, 22, 22, 23, 23] := by kernel_rfl
  have htd : Try.prog.cellTypes Try.prog.depth 25 = some [22, 22, 23, 23] := by kernel_rfl
  rw [hts'] at hts
  cases hts
  obtain ⟨fuel, h⟩ := h
  obtain ⟨y0, y1, n, h0, h1⟩ : ∃ y0 y1 n, DataW.trod enc Try.prog W 0 (fun _ => true) true n 25 [c0, c1, c2, c3] = some y0 ∧ DataW.trod enc Try.prog W 0 (fun _ => true) true n 25 [c4, c5, c6, c7] = some y1 := by
    cases fuel with
    | zero => simp [DataW.trod] at h
    | succ n =>
      unfold DataW.trod at h
      rw [Try.underlying26] at h
      have r2 : List.range 2 = [0, 1] := rfl
      simp [r2, e4, Value.cells] at h
      cases h0 : DataW.trod enc Try.prog W 0 (fun _ => true) true n 25 [c0, c1, c2, c3] with
      | none => simp [h0] at h
      | some y0 =>
        cases h1 : DataW.trod enc Try.prog W 0 (fun _ => true) true n 25 [c4, c5, c6, c7] with
        | none => simp [h0, h1] at h
        | some y1 => exact ⟨y0, y1, n, h0, h1⟩
  have part : ∀ (a b c d : Value) (k : Nat), (∀ (i : Nat) x, [a, b, c, d][i]? = some x → #[c0, c1, c2, c3, c4, c5, c6, c7][k + i]? = some x) → (k = 0 ∨ k = 4) → Value.okWide Try.prog W .any base 25 (.agg #[a, b, c, d]) := by
    intro a b c d k hk hk'
    simp only [Value.okWide, Try.underlying25]
    refine ⟨_, rfl, e4.symm, _, htd, ⟨1, rfl⟩, fun i x hx => ?_⟩
    obtain ⟨t, ht, hc⟩ := hcell (k + i) x (hk i x (by simpa using hx))
    refine ⟨t, ?_, hc⟩
    have hi : i < 4 := by
      rcases Nat.lt_or_ge i 4 with h | h
      · exact h
      · have : (#[a, b, c, d] : Array Value)[i]? = none := by simp; omega
        rw [this] at hx; cases hx
    obtain rfl | rfl | rfl | rfl : i = 0 ∨ i = 1 ∨ i = 2 ∨ i = 3 := by omega
    all_goals rcases hk' with rfl | rfl <;> exact ht
  refine ⟨c0, c1, c2, c3, c4, c5, c6, c7, rfl, draft_in (part c0 c1 c2 c3 0 (fun i x hx => ?_) (Or.inl rfl)) ⟨n, h0⟩, draft_in (part c4 c5 c6 c7 4 (fun i x hx => ?_) (Or.inr rfl)) ⟨n, h1⟩⟩
  · obtain h | h | h | h | h : i = 0 ∨ i = 1 ∨ i = 2 ∨ i = 3 ∨ 4 ≤ i := by omega
    all_goals first | (subst h; simpa using hx) | (simp at hx; omega) | (exfalso; rw [List.getElem?_eq_none (by simpa using h)] at hx; cases hx)
  · obtain h | h | h | h | h : i = 0 ∨ i = 1 ∨ i = 2 ∨ i = 3 ∨ 4 ≤ i := by omega
    all_goals first | (subst h; simpa using hx) | (simp at hx; omega) | (exfalso; rw [List.getElem?_eq_none (by simpa using h)] at hx; cases hx)

/-- A slice of Booleans that reads as f. -/
def BoolsAt (w : World) (a : Option Addr) (n : Nat) (f : Nat → Bool) : Prop := n ≤ 9223372036854775807 ∧ ∀ j, j < n → ∃ b off, a = some ⟨b, off, none⟩ ∧ w.cell? ⟨b, off + j, none⟩ = some (.bool (f j))
set_option maxRecDepth 100000 in
theorem BoolsAt.keep {w w' : World} {a : Option Addr} {n : Nat} {f : Nat → Bool} (h : BoolsAt w a n f) (k : Keep w w') : BoolsAt w' a n f :=
  ⟨h.1, fun j hj => by obtain ⟨b, off, e, hc⟩ := h.2 j hj; exact ⟨b, off, e, k.some hc⟩⟩
set_option maxRecDepth 100000 in
theorem bools_in {v : Value} {d : DataW H} {p : List MemPlace} (hv : Value.okWide Try.prog W .any base 27 v) (h : DataW.Trod enc Try.prog W 0 (fun _ => true) true 27 v d p) :
    ∃ a n cap f, v = .slice a n cap ∧ BoolsAt W a n f := by
  obtain ⟨a0, len, cap, rfl⟩ := okWide_slice Try.underlying27 hv
  obtain ⟨fuel, hf⟩ := h
  rcases open_bools Try.underlying27 Try.underlying4 (by kernel_rfl) hf with ⟨hcs, -⟩ | ⟨a, len', cap', F, hcs, -, hl, hm, -, hcell⟩
  · simp [Value.cells] at hcs
    obtain ⟨rfl, rfl, rfl⟩ := hcs
    exact ⟨none, 0, 0, fun _ => false, rfl, by omega, fun j hj => by omega⟩
  · simp [Value.cells] at hcs
    obtain ⟨rfl, rfl, rfl⟩ := hcs
    obtain ⟨b, off, spot⟩ := a
    have hs : spot = none := by
      simp only [Value.okWide, Try.underlying27, Cell.okWide, Cell.ok] at hv
      exact hv.2.2.2.1
    subst hs
    refine ⟨_, len, cap, F, rfl, by unfold maxLen at hm; omega, fun j hj => ⟨b, off, rfl, ?_⟩⟩
    have := hcell j (by omega)
    have ea : (⟨b, off, none⟩ : Addr).add j = ⟨b, off + j, none⟩ := by unfold Addr.add; split <;> simp_all
    rwa [ea] at this
end Go.Proofs.Ytaknbjjcgcmdlaa
