/- A store of a whole row into a variable; tables as rows of values. Nothing is said of the program here. -/
import Derived.Test.YtgejpbgpgklimaaCVals
import Derived.Test.YtgejpbgpgklimaaKeep
import Derived.Laws.Rows
import Derived.Laws.CopyRow
namespace Go.Proofs.Ytgejpbgpgklimaa
open Go Go.RowKit
section
variable {P : Program}
theorem run_storeVar_row (w : World) (g : Nat) (t ty : TypeId) (cur cs : Array Value) (hg : w.heap[g]? = some (.cells cur t (0, 0))) (hs : cur.size = cs.size) (h1 : ∀ v ∈ cs.toList, v.oneCell' = true)
    (hi : (P.info? ty).map (·.size) = some cs.size) : (storeVar ty ⟨g, 0, none⟩ (.agg cs)).run P w = .ok () (w.setRow g cs) := by
  have hst := run_storeCells_at P g 0 t cs.toList 0 cur w hg (by simp; omega) h1
  cases hq : P.info? ty with
  | none => simp [hq] at hi
  | some i =>
    have hz : i.size = cs.size := by simpa [hq] using hi
    have e : (cur.toList.take (0 + 0) ++ cs.toList ++ cur.toList.drop (0 + 0 + cs.toList.length)).toArray = cs := by
      simp [List.drop_eq_nil_of_le, hs]
    rw [e] at hst
    simp [storeVar, Value.cells, sizeOf, typeInfo, hq, hz, hst]
theorem wp_store_row {o : Oper} {a : Act} {w : World} {K : Act → World → Prop} {Q : Exit → Act → World → Prop} (ty : TypeId) (x y : Operand) (ho : o.op = .store ty x y)
    (g : Nat) (hx : a.eval x = .pointer (some ⟨g, 0, none⟩)) (t : TypeId) (cur cs : Array Value) (hy : a.eval y = .agg cs) (hg : w.heap[g]? = some (.cells cur t (0, 0))) (hs : cur.size = cs.size) (h1 : ∀ v ∈ cs.toList, v.oneCell' = true)
    (hi : (P.info? ty).map (·.size) = some cs.size) (h : K (a.put o.dst undef) (w.setRow g cs)) : o.wp P a w K Q := by
  unfold Oper.wp execOp
  simp only [ho, hx, hy, Instr.storeAt, Instr.sureAddr, Sem.run_bind, Sem.run_pure, Result.andThen_ok, run_storeVar_row w g t ty cur cs hg hs h1 hi]
  exact h
theorem wpList_store_row {ops : Array Oper} {rest : List Oper} {o : Oper} {a : Act} {w : World} {Q : Exit → Act → World → Prop} (hgd : o.guard = none) (ty : TypeId) (x y : Operand) (ho : o.op = .store ty x y)
    (g : Nat) (hx : a.eval x = .pointer (some ⟨g, 0, none⟩)) (t : TypeId) (cur cs : Array Value) (hy : a.eval y = .agg cs) (hg : w.heap[g]? = some (.cells cur t (0, 0))) (hs : cur.size = cs.size) (h1 : ∀ v ∈ cs.toList, v.oneCell' = true)
    (hi : (P.info? ty).map (·.size) = some cs.size) (h : wpList P ops Q rest (a.put o.dst undef) (w.setRow g cs)) : wpList P ops Q (o :: rest) a w :=
  wpList_plain hgd fun _ hK => wp_store_row ty x y ho g hx t cur cs hy hg hs h1 hi (hK _ _ h)
theorem wpList_build_is {ops : Array Oper} {rest : List Oper} {o : Oper} {a : Act} {w : World} {Q : Exit → Act → World → Prop} (hgd : o.guard = none) (t : TypeId) (parts : Array (Nat × Operand)) (ho : o.op = .build t parts)
    (cells : Array Value) (hc : P.built t (parts.toList.map fun (i, x) => (i, a.eval x)) = some cells) (h : wpList P ops Q rest (a.put o.dst (.agg cells)) w) : wpList P ops Q (o :: rest) a w :=
  wpList_plain hgd fun _ hK => by
    unfold Oper.wp execOp
    rw [← Array.toList_map] at hc
    simp only [ho, Sem.run_bind, run_build w t _ cells hc, Result.andThen_ok]
    exact hK _ _ h
end
theorem Keep.setRow {W w : World} (h : Keep W w) {g : Nat} (hg : W.heap.size ≤ g) (cs : Array Value) : Keep W (w.setRow g cs) :=
  ⟨h.os, h.output, by have := h.size; simpa using this, fun k hk => (setRow_other w g k cs (by omega)).trans (h.block k hk)⟩

/-- The table when i entries are filled. -/
def tabA (i : Nat) : Array Value := ((List.range 256).map fun j => if j < i then Value.int .u32 (cv (tabV j)) else .int .u32 0).toArray
theorem tabA_size (i) : (tabA i).size = 256 := by simp [tabA]
theorem tabA_get (i j : Nat) (h : j < 256) : (tabA i)[j]? = some (if j < i then Value.int .u32 (cv (tabV j)) else .int .u32 0) := by simp [tabA, h]
theorem tabA_set (i : Nat) : (tabA i).setIfInBounds i (.int .u32 (cv (tabV i))) = tabA (i + 1) := by
  apply Array.ext
  · simp [tabA_size]
  · intro j h1 h2
    rw [tabA_size] at h2
    have e1 := tabA_get i j h2
    have e2 := tabA_get (i + 1) j h2
    rw [Array.getElem?_eq_getElem (by rw [tabA_size]; exact h2)] at e1 e2
    simp only [Option.some.injEq] at e1 e2
    rw [Array.getElem_setIfInBounds (by rw [tabA_size]; exact h2), e1, e2]
    by_cases h3 : i = j
    · subst h3; simp
    · simp only [h3, if_false]
      by_cases h4 : j < i
      · simp [h4, show j < i + 1 by omega]
      · simp [h4, show ¬ j < i + 1 by omega]
theorem tabA_one (i : Nat) : ∀ v ∈ (tabA i).toList, v.oneCell' = true := by
  intro v hv
  simp only [tabA, List.mem_map] at hv
  obtain ⟨j, _, rfl⟩ := hv
  split <;> rfl
theorem tabA_zero : tabA 0 = Array.replicate 256 (.int .u32 0) := by
  apply Array.ext
  · simp [tabA]
  · intro j h1 h2; simp [tabA]
end Go.Proofs.Ytgejpbgpgklimaa
