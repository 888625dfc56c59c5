/- A world in which everything that was there is as it was, whatever has been made beside it. Nothing is said of the program here. -/
import Derived.Test.YtgejpbgpgklimaaBase
import Derived.Laws.AppendOwn
import Derived.Carry
import Derived.Deep.QuietTactic
namespace Go.Proofs.Ytgejpbgpgklimaa
open Go Go.RowKit

structure Keep (w w' : World) : Prop where
  os : w'.os = w.os
  output : w'.output = w.output
  size : w.heap.size ≤ w'.heap.size
  block : ∀ k, k < w.heap.size → w'.heap[k]? = w.heap[k]?

theorem Keep.refl (w : World) : Keep w w := ⟨rfl, rfl, Nat.le_refl _, fun _ _ => rfl⟩
theorem Keep.trans {a b c : World} (h : Keep a b) (k : Keep b c) : Keep a c :=
  ⟨k.os.trans h.os, k.output.trans h.output, Nat.le_trans h.size k.size, fun i hi => (k.block i (Nat.lt_of_lt_of_le hi h.size)).trans (h.block i hi)⟩
theorem Keep.alloc {W w : World} (h : Keep W w) (o : Obj) : Keep W (w.alloc o) :=
  h.trans ⟨rfl, rfl, by simp, fun k hk => Below.heap_alloc w o k hk⟩
theorem Keep.drew {W w : World} (h : Keep W w) : Keep W w.drew := ⟨h.os, h.output, h.size, h.block⟩
theorem Keep.drewN {W w : World} (h : Keep W w) (n : Nat) : Keep W (w.drewN n) := by
  induction n generalizing w with
  | zero => exact h
  | succ n ih => first | exact (ih h).drew | exact ih h.drew
theorem Keep.setCell {W w : World} (h : Keep W w) {a : Addr} (ha : W.heap.size ≤ a.block) (v : Value) : Keep W (w.setCell a v) :=
  ⟨h.os, h.output, by have := h.size; simpa [World.setCell] using this, fun k hk => (Below.heap_setCell w a v k (by omega)).trans (h.block k hk)⟩
theorem Keep.by {W w w' : World} (h : Keep W w) (g : w.grownBy w' none) : Keep W w' :=
  h.trans ⟨g.os, g.output, g.size, fun k hk => g.block k hk (by simp)⟩
theorem Keep.byRow {W w w' : World} {row : Option Nat} (h : Keep W w) (g : w.grownBy w' row) (hr : ∀ k, row = some k → W.heap.size ≤ k) : Keep W w' :=
  ⟨g.os.trans h.os, g.output.trans h.output, Nat.le_trans h.size g.size, fun k hk => (g.block k (Nat.lt_of_lt_of_le hk h.size) (fun e => by have := hr k e.symm; omega)).trans (h.block k hk)⟩

/-- 'Grown' keeps every block. -/
theorem keepOf {w w' : World} (h : Grown w w') : Keep w w' := by
  obtain ⟨⟨h1, h2, h3⟩, _, hs⟩ := h
  refine ⟨h1, h2, hs, fun k hk => ?_⟩
  have := h3 k hk
  revert this
  cases ho : w.heap[k]? with
  | none => intro this; rw [Array.getElem?_eq_getElem hk] at ho; exact absurd ho (by simp)
  | some o =>
    cases ho' : w'.heap[k]? with
    | none => cases o <;> (intro this; simp at this)
    | some o' =>
      cases o <;> cases o' <;> intro this
      all_goals first
        | (obtain ⟨rfl, rfl, hz, hc⟩ := this
           congr 2
           apply Array.ext_getElem?
           intro j
           exact hc j (fun f => f))
        | (rcases this with f | ⟨rfl, rfl⟩
           · exact f.elim
           · rfl)
        | exact this
        | (simp at this; try exact this)

theorem Keep.cell {w w' : World} (h : Keep w w') {b o : Nat} (hb : b < w.heap.size) : w'.cell? ⟨b, o, none⟩ = w.cell? ⟨b, o, none⟩ := World.cell?_of_block (h.block b hb)
theorem Keep.some {w w' : World} (h : Keep w w') {b o : Nat} {v : Value} (hc : w.cell? ⟨b, o, none⟩ = some v) : w'.cell? ⟨b, o, none⟩ = some v := by
  rw [h.cell (cellBlock hc)]; exact hc
theorem Keep.frozen {w w' : World} (h : Keep w w') {b o : Nat} (hb : b < w.heap.size) : w'.frozen? ⟨b, o, none⟩ = w.frozen? ⟨b, o, none⟩ := World.frozen?_of_block (h.block b hb)
theorem Keep.tab {w w' : World} {g : Nat} {tab : List Nat} (h : Keep w w') (t : TabAt g tab w) : TabAt g tab w' := fun j hj => h.some (t j hj)

/-- FRAME of a row's post. -/
theorem Keep.frame {W W' : World} (h : Keep W W') (may : MemPlace → Prop) : W.keptBut W' may := by
  refine ⟨h.os, h.output, fun i hi => ?_⟩
  rw [h.block i hi]
  split <;> simp_all

/-- A slice value that reads as the list zs. -/
def ListAt (w : World) (v : Value) (zs : List Int) : Prop :=
  (v = .slice none 0 0 ∧ zs = []) ∨ ∃ b off n cap, v = .slice (some ⟨b, off, none⟩) n cap ∧ zs.length = n ∧ n ≤ 9223372036854775807 ∧ ∀ j, j < n → w.cell? ⟨b, off + j, none⟩ = some (.int .i64 (zs.getD j 0))

theorem ListAt.keep {w w' : World} {v : Value} {zs : List Int} (h : ListAt w v zs) (k : Keep w w') : ListAt w' v zs := by
  rcases h with h | ⟨b, off, n, cap, h1, h2, h3, h4⟩
  · exact Or.inl h
  · exact Or.inr ⟨b, off, n, cap, h1, h2, h3, fun j hj => k.some (h4 j hj)⟩

end Go.Proofs.Ytgejpbgpgklimaa
