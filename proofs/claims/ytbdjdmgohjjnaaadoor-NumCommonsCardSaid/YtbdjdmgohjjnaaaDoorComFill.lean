/- The loop that fills the list of small numbers: what holds of its row from round to round. -/
import Derived.Test.YtbdjdmgohjjnaaaDoorComLem
import Derived.Laws.OwnMore
import Derived.OwnWalk
namespace Go.Proofs.YtbdjdmgohjjnaaaDoor
open Go Go.RowKit

/-- The small number that the statement makes of z. -/
def smallOf (z : Int) : Int := wrap64 (1 + wrap64 ((IntKind.u64.wrap z).tmod 60))

def Fill (W : World) (S m : Nat) (zs : List Int) (k : Nat) (w : World) : Prop :=
  HeldK W w ∧ ∃ xs : List Int, xs.length = m ∧ w.ownsRow S 3 1 (.slice (some ⟨S, 0, none⟩) m m) m (xs.map (Value.int .i64)) ∧ ∀ j, j < k → xs.getD j 0 = smallOf (zs.getD j 0)

theorem Fill.start {W w : World} {S m : Nat} {zs : List Int} (hg : W.grownBy w none) (h : w.ownsRow S 3 1 (.slice (some ⟨S, 0, none⟩) m m) m (madeCells (Value.int .i64 0).cells (m * 1)).toList) : Fill W S m zs 0 w := by
  refine ⟨Keep.by (Keep.refl _) hg, List.replicate m 0, by simp, ?_, fun j hj => absurd hj (Nat.not_lt_zero j)⟩
  have e : (madeCells (Value.int .i64 0).cells (m * 1)).toList = (List.replicate m (0 : Int)).map (Value.int .i64) := by
    rw [List.map_replicate]
    apply List.ext_getElem
    · simp [madeCells]
    · intro j h1 h2
      simp [madeCells, Value.cells, Nat.mod_one]
  rw [e] at h
  exact h
theorem Fill.old {W w : World} {S m k j : Nat} {zs : List Int} (h : Fill W S m zs k w) (hj : j < m) : ∃ x, w.cell? ⟨S, j, none⟩ = some (.int .i64 x) := by
  obtain ⟨_, xs, hl, hr, _⟩ := h
  rw [hr.cellAt j (by omega), List.getElem?_map, List.getElem?_eq_getElem (by omega)]
  exact ⟨_, rfl⟩
theorem Fill.frozen {W w : World} {S m k : Nat} {zs : List Int} (h : Fill W S m zs k w) (j : Nat) : w.frozen? ⟨S, j, none⟩ = false := by
  obtain ⟨_, xs, hl, hr, _⟩ := h
  exact hr.frozenAt j
theorem Fill.drew {W w : World} {S m k : Nat} {zs : List Int} (h : Fill W S m zs k w) : Fill W S m zs k w.drew := by
  obtain ⟨hk, xs, hl, hr, hx⟩ := h
  exact ⟨HeldK.drew hk, xs, hl, hr, hx⟩
theorem Fill.drewN {W w : World} {S m k : Nat} {zs : List Int} (h : Fill W S m zs k w) (n : Nat) : Fill W S m zs k (w.drewN n) := by
  induction n generalizing w with
  | zero => exact h
  | succ n ih => first | exact (ih h).drew | exact ih h.drew
theorem Fill.next {W w : World} {S m k : Nat} {zs : List Int} {v : Int} (h : Fill W S m zs k w) (hS : W.heap.size ≤ S) (hk : k < m) (hv : smallOf (zs.getD k 0) = v) : Fill W S m zs (k + 1) (w.setCell ⟨S, k, none⟩ (.int .i64 v)) := by
  obtain ⟨hK, xs, hl, hr, hx⟩ := h
  have hs := hr.stored k (.int .i64 v)
  refine ⟨Keep.byRow hK hs.2 (fun i hi => by cases hi; exact hS), xs.set k v, by simpa using hl, ?_, fun j hj => ?_⟩
  · have := hs.1
    rwa [List.map_set]
  · by_cases e : j = k
    · subst e
      simp [List.getD, hl, hk]
      simpa [List.getD] using hv.symm
    · have := hx j (by omega)
      simp only [List.getD, List.getElem?_set] at this ⊢
      rw [if_neg (fun h => e h.symm)]
      exact this
theorem Fill.done {W w : World} {S m : Nat} {zs : List Int} (h : Fill W S m zs m w) : ∃ ss : List Int, ss.length = m ∧ ∀ j, j < m → w.cell? ⟨S, 0 + j, none⟩ = some (.int .i64 (ss.getD j 0)) := by
  obtain ⟨hK, xs, hl, hr, hx⟩ := h
  refine ⟨xs, hl, fun j hj => ?_⟩
  rw [Nat.zero_add, hr.cellAt j (by omega), List.getElem?_map, List.getElem?_eq_getElem (by omega)]
  simp [List.getD, List.getElem?_eq_getElem (show j < xs.length by omega)]

theorem listAtTake {w : World} {b off n m cap : Nat} {zs : List Int} (hz : zs.length = n) (hm : min n 12 = m) (h : ∀ j, j < n → w.cell? ⟨b, off + j, none⟩ = some (.int .i64 (zs.getD j 0))) : ListAt w (.slice (some ⟨b, off, none⟩) m cap) (zs.take m) := by
  refine Or.inr ⟨b, off, m, cap, rfl, by rw [List.length_take]; omega, by omega, fun j hj => ?_⟩
  rw [h j (by omega)]
  simp [List.getD, hj]

end Go.Proofs.YtbdjdmgohjjnaaaDoor
