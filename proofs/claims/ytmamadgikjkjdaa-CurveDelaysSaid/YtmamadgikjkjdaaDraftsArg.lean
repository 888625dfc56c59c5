/- A slice of drafts that came in: opened, as far as their buckets go. Nothing is said of the program's code here. -/
import Derived.Test.YtmamadgikjkjdaaDraftArg
import Derived.Deep.Slices
namespace Go.Proofs.Ytmamadgikjkjdaa
open Go Go.Joins Go.ChangeShapes Go.WideShapes Go.ChangeAt Go.RowKit Go.Deep

/-- A slice of drafts: each one's numbers lie there. -/
def DraftsAt (w : World) (a : Option Addr) (n : Nat) (Bf Rf : Nat → Int) : Prop := n ≤ 9223372036854775807 ∧ ∀ j, j < n → ∃ (b off : Nat) (ga sa : Option Addr) (gl gc sl sc : Nat), a = some ⟨b, off, none⟩ ∧
  w.cell? ⟨b, off + j * 4, none⟩ = some (.int .u32 (Bf j)) ∧ w.cell? ⟨b, off + j * 4 + 1, none⟩ = some (.int .u32 (Rf j)) ∧ w.cell? ⟨b, off + j * 4 + 2, none⟩ = some (.slice ga gl gc) ∧ w.cell? ⟨b, off + j * 4 + 3, none⟩ = some (.slice sa sl sc) ∧ (0 ≤ Bf j ∧ Bf j ≤ 4294967295) ∧ (0 ≤ Rf j ∧ Rf j ≤ 4294967295)
set_option maxRecDepth 100000 in
theorem DraftsAt.keep {w w' : World} {a : Option Addr} {n : Nat} {Bf Rf : Nat → Int} (h : DraftsAt w a n Bf Rf) (k : Keep w w') : DraftsAt w' a n Bf Rf :=
  ⟨h.1, fun j hj => by obtain ⟨b, off, ga, sa, gl, gc, sl, sc, e, h0, h1, h2, h3, h4⟩ := h.2 j hj; exact ⟨b, off, ga, sa, gl, gc, sl, sc, e, k.some h0, k.some h1, k.some h2, k.some h3, h4⟩⟩

variable {H : Type} {enc : TypeId × Value → H} {W : World} {base : Nat}
set_option maxRecDepth 100000 in
theorem sliceShape {n : Nat} {v : Value} {y : DataW H × List MemPlace} (h : DataW.trod enc Try.prog W 0 (fun _ => true) true n 23 [v] = some y) : ∃ ga gl gc, v = .slice ga gl gc := by
  rcases open_ints Try.underlying23 Try.underlying79 (by kernel_rfl) h with ⟨hcs, -⟩ | ⟨a, len, cap, zs, hcs, -⟩
  · simp at hcs
    exact ⟨_, _, _, hcs⟩
  · simp at hcs
    exact ⟨_, _, _, hcs⟩

set_option maxRecDepth 100000 in
theorem draftRow_in {v : Value} {d : DataW H} {p : List MemPlace} (hv : Value.okWide Try.prog W .any base 63 v) (h : DataW.Trod enc Try.prog W 0 (fun _ => true) true 63 v d p) :
    ∃ a n cap Bf Rf, v = .slice a n cap ∧ DraftsAt W a n Bf Rf := by
  obtain ⟨a0, len, cap, rfl⟩ := okWide_slice Try.underlying63 hv
  obtain ⟨fuel, hf⟩ := h
  have e4 : Try.prog.cellsOf 25 = 4 := by kernel_rfl
  rcases open_slice Try.underlying63 hf with ⟨hcs, -⟩ | ⟨a, len', cap', m, n, D, Pl, hcs, -, hl, hm, hmm, -, hx⟩
  · simp [Value.cells] at hcs
    obtain ⟨rfl, rfl, rfl⟩ := hcs
    exact ⟨none, 0, 0, fun _ => 0, fun _ => 0, rfl, by omega, fun j hj => by omega⟩
  · simp [Value.cells] at hcs
    obtain ⟨rfl, rfl, rfl⟩ := hcs
    obtain ⟨b, off, spot⟩ := a
    have hs : spot = none := by
      simp only [Value.okWide, Try.underlying63, Cell.okWide, Cell.ok] at hv
      exact hv.2.2.2.1
    subst hs
    simp only [if_true] at hmm
    have ea : ∀ j : Nat, (⟨b, off, none⟩ : Addr).add j = ⟨b, off + j, none⟩ := fun j => by unfold Addr.add; split <;> simp_all
    have each : ∀ j, j < len → ∃ q : Int × Int, ∃ (ga sa : Option Addr) (gl gc sl sc : Nat), W.cell? ⟨b, off + j * 4, none⟩ = some (.int .u32 q.1) ∧ W.cell? ⟨b, off + j * 4 + 1, none⟩ = some (.int .u32 q.2) ∧ W.cell? ⟨b, off + j * 4 + 2, none⟩ = some (.slice ga gl gc) ∧ W.cell? ⟨b, off + j * 4 + 3, none⟩ = some (.slice sa sl sc) ∧ (0 ≤ q.1 ∧ q.1 ≤ 4294967295) ∧ (0 ≤ q.2 ∧ q.2 ≤ 4294967295) := by
      intro j hj
      obtain ⟨cs', h1, h2⟩ := hx j (by omega)
      rw [e4] at h1
      obtain ⟨_, hlen, hcell⟩ := World.cells?_some h1
      obtain ⟨xs, k, hk, hxy, _, hxl, hf⟩ := DataW.trod_struct Try.underlying25 h2
      match xs, hxl, cs', hlen with
      | [y0, y1, y2, y3], _, [v0, v1, v2, v3], _ =>
        have g0 := hf 0 _ rfl
        have g1 := hf 1 _ rfl
        have g2 := hf 2 _ rfl
        have g3 := hf 3 _ rfl
        have k1 : Try.prog.cellsOf 22 = 1 := by kernel_rfl
        have k2 : Try.prog.cellsOf 23 = 1 := by kernel_rfl
        simp [k1, k2] at g0 g1 g2 g3
        obtain ⟨B, e0, -, w0⟩ := DataW.trod_int Try.underlying22 g0
        obtain ⟨R, e1, -, w1⟩ := DataW.trod_int Try.underlying22 g1
        simp at e0 e1
        subst e0 e1
        obtain ⟨ga, gl, gc, rfl⟩ := sliceShape g2
        obtain ⟨sa, sl, sc, rfl⟩ := sliceShape g3
        have c0 := hcell 0 (by omega)
        have c1 := hcell 1 (by omega)
        have c2 := hcell 2 (by omega)
        have c3 := hcell 3 (by omega)
        rw [add_add, ea] at c0 c1 c2 c3
        exact ⟨(B, R), ga, sa, gl, gc, sl, sc, by simpa using c0, by simpa [Nat.add_assoc] using c1, by simpa [Nat.add_assoc] using c2, by simpa [Nat.add_assoc] using c3, u32_bd w0, u32_bd w1⟩
    obtain ⟨q, hq⟩ := choose_lt each
    refine ⟨_, len, cap, fun j => (q j).1, fun j => (q j).2, rfl, by unfold maxLen at hm; omega, fun j hj => ?_⟩
    obtain ⟨ga, sa, gl, gc, sl, sc, h0⟩ := hq j hj
    exact ⟨b, off, ga, sa, gl, gc, sl, sc, rfl, h0⟩
end Go.Proofs.Ytmamadgikjkjdaa
