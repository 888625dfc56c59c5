/- A state and a piece in variables: rows of four cells. -/
import Derived.Test.YtgejpbgpgklimaaMChk2
import Derived.Test.YtgejpbgpgklimaaCRows
namespace Go.Proofs.Ytgejpbgpgklimaa
open Go Go.RowKit

/-- All but block R is as it was. -/
structure KeepX (R : Nat) (w w' : World) : Prop where
  os : w'.os = w.os
  output : w'.output = w.output
  size : w.heap.size ≤ w'.heap.size
  block : ∀ k, k < w.heap.size → k ≠ R → w'.heap[k]? = w.heap[k]?
theorem heap_lt {w : World} {B : Nat} {o : Obj} (h : w.heap[B]? = some o) : B < w.heap.size := by
  rcases Nat.lt_or_ge B w.heap.size with h1 | h1
  · exact h1
  · rw [Array.getElem?_eq_none h1] at h; cases h
theorem KeepX.row {R : Nat} {w w' : World} (h : KeepX R w w') {B : Nat} {o : Obj} (hb : w.heap[B]? = some o) (hne : B ≠ R) : w'.heap[B]? = some o := (h.block B (heap_lt hb) hne).trans hb
theorem keepRow {w w' : World} (h : Keep w w') {B : Nat} {o : Obj} (hb : w.heap[B]? = some o) : w'.heap[B]? = some o := (h.block B (heap_lt hb)).trans hb
theorem Keep.byX {R : Nat} {W w w' : World} (h : Keep W w) (k : KeepX R w w') (hR : W.heap.size ≤ R) : Keep W w' :=
  ⟨k.os.trans h.os, k.output.trans h.output, Nat.le_trans h.size k.size, fun i hi => (k.block i (Nat.lt_of_lt_of_le hi h.size) (by omega)).trans (h.block i hi)⟩
theorem KeepX.refl (B : Nat) (w : World) : KeepX B w w := ⟨rfl, rfl, Nat.le_refl _, fun _ _ _ => rfl⟩
theorem KeepX.trans {R : Nat} {a b c : World} (h : KeepX R a b) (k : KeepX R b c) : KeepX R a c :=
  ⟨k.os.trans h.os, k.output.trans h.output, Nat.le_trans h.size k.size, fun i hi hne => (k.block i (Nat.lt_of_lt_of_le hi h.size) hne).trans (h.block i hi hne)⟩
theorem Keep.toX {w w' : World} (h : Keep w w') (R : Nat) : KeepX R w w' := ⟨h.os, h.output, h.size, fun k hk _ => h.block k hk⟩
theorem keepX_set (w : World) (B i : Nat) (v : Value) : KeepX B w (w.setCell ⟨B, i, none⟩ v) :=
  ⟨rfl, rfl, by simp [World.setCell], fun k hk hne => Below.heap_setCell _ _ _ _ (by simpa using hne)⟩
theorem keepX_row (w : World) (B : Nat) (cs : Array Value) : KeepX B w (w.setRow B cs) :=
  ⟨rfl, rfl, by simp, fun k hk hne => setRow_other w B k cs hne⟩

/-- A row of four cells: a state (m: the block's type). -/
def MgT (t : TypeId) (w : World) (R : Nat) (o : Bool) (n x : Int) (d : ByteArray) : Prop := w.heap[R]? = some (.cells #[.bool o, .int .i64 n, .int .i64 x, .string d] t (0, 0))
section
variable {t : TypeId} {w w' : World} {R B : Nat} {o : Bool} {n x : Int} {d : ByteArray}
theorem mg_cells (h : MgT t w R o n x d) : w.cell? ⟨R, 0, none⟩ = some (.bool o) ∧ w.cell? ⟨R, 1, none⟩ = some (.int .i64 n) ∧ w.cell? ⟨R, 2, none⟩ = some (.int .i64 x) ∧ w.cell? ⟨R, 3, none⟩ = some (.string d) := by
  refine ⟨?_, ?_, ?_, ?_⟩ <;> exact cell_of_row _ _ _ _ _ _ h
theorem mg_free (h : MgT t w R o n x d) (j : Nat) : w.frozen? ⟨R, j, none⟩ = false := frozen_of_row w R j _ _ h
theorem mg_k (h : MgT t w R o n x d) (k : Keep w w') : MgT t w' R o n x d := keepRow k h
theorem mg_x (h : MgT t w R o n x d) (k : KeepX B w w') (hne : R ≠ B) : MgT t w' R o n x d := k.row h hne
theorem mg_lt (h : MgT t w R o n x d) : R < w.heap.size := heap_lt h
theorem mg_new (w : World) (t : TypeId) (o : Bool) (n x : Int) (d : ByteArray) : MgT t (w.alloc (.cells #[.bool o, .int .i64 n, .int .i64 x, .string d] t)) w.heap.size o n x d := heap_alloc_new w _
theorem mg_row (h : MgT t w R o n x d) (o' : Bool) (n' x' : Int) (d' : ByteArray) : MgT t (w.setRow R #[.bool o', .int .i64 n', .int .i64 x', .string d']) R o' n' x' d' := setRow_heap w R _ _ _ _ h
theorem mg_set (h : MgT t w R o n x d) (d' : ByteArray) : MgT t (w.setCell ⟨R, 3, none⟩ (.string d')) R o n x d' := heap_setCell_same _ _ _ _ _ _ h
end
theorem mg_one (o : Bool) (n x : Int) (d : ByteArray) : ∀ v ∈ (#[Value.bool o, .int .i64 n, .int .i64 x, .string d]).toList, v.oneCell' = true := by
  intro v hv
  simp only [List.mem_cons, List.not_mem_nil, or_false] at hv
  rcases hv with rfl | rfl | rfl | rfl <;> rfl
theorem info_merge : (Try.prog.info? 43).map (·.size) = some 4 := by kernel_rfl
theorem info_piece : (Try.prog.info? 45).map (·.size) = some 4 := by kernel_rfl
theorem info_reas : (Try.prog.info? 81).map (·.size) = some 4 := by kernel_rfl
end Go.Proofs.Ytgejpbgpgklimaa
