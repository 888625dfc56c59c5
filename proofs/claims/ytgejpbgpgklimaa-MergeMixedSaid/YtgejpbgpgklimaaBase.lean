/- Small lemmas on worlds that have only grown, used by every text of this seat. Nothing is proved of the program here. -/
import Derived.Test.YtgejpbgpgklimaaProg
import Derived.RowKit3
import Derived.Below
import Derived.Shelf.Spec.TrailingZeros
namespace Go.Proofs.Ytgejpbgpgklimaa
open Go Go.RowKit

theorem grownTrans {a b c : World} (h : Grown a b) (k : Grown b c) : Grown a c :=
  ⟨World.keptBut_trans h.1 k.1, fun x => (k.2.1 x).trans (h.2.1 x), Nat.le_trans h.2.2 k.2.2⟩

theorem grownBelow {w w' : World} (h : Below w.heap.size w w') (hf : ∀ a, w'.frozen? a = w.frozen? a) : Grown w w' :=
  ⟨h.frame _, hf, h.size⟩

/-- A cell of an old block reads as it did. -/
theorem grownCell {w w' : World} (h : Grown w w') {b o : Nat} (hb : b < w.heap.size) : w'.cell? ⟨b, o, none⟩ = w.cell? ⟨b, o, none⟩ :=
  World.keptBut.cell h.1 hb (fun f => f)

/-- What read as a value lies in a block. -/
theorem cellBlock {w : World} {b o : Nat} {v : Value} (h : w.cell? ⟨b, o, none⟩ = some v) : b < w.heap.size := by
  by_cases hb : b < w.heap.size
  · exact hb
  · exfalso
    have e : w.heap[b]? = none := by simp; omega
    simp [World.cell?, e] at h

theorem grownSome {w w' : World} (h : Grown w w') {b o : Nat} {v : Value} (hc : w.cell? ⟨b, o, none⟩ = some v) : w'.cell? ⟨b, o, none⟩ = some v := by
  rw [grownCell h (cellBlock hc)]; exact hc

/-- What the walk asks of a world behind a call: old cells, old marks, the size. -/
theorem grownFacts {w w' : World} (h : Grown w w') : (∀ b o, b < w.heap.size → w'.cell? ⟨b, o, none⟩ = w.cell? ⟨b, o, none⟩) ∧ (∀ a, w'.frozen? a = w.frozen? a) ∧ w.heap.size ≤ w'.heap.size :=
  ⟨fun _ _ hb => grownCell h hb, h.2.1, h.2.2⟩

/-- The library's table of trailing zeros stays where it is. -/
theorem tabGrown {w w' : World} {g : Nat} {tab : List Nat} (h : Grown w w') (t : TabAt g tab w) : TabAt g tab w' :=
  fun j hj => grownSome h (t j hj)

end Go.Proofs.Ytgejpbgpgklimaa
