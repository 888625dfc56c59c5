/- Appends of a row of arrivals, or of buckets, to an empty row of one's own: none, one or more. -/
import Derived.Test.YtaknbjjcgcmdlaaRegion
import Derived.Deep.RegionLaw
namespace Go.Proofs.Ytaknbjjcgcmdlaa
open Go Go.RowKit

theorem grownBy_refl (w : World) (r : Option Nat) : w.grownBy w r := ⟨rfl, rfl, rfl, Nat.le_refl _, fun _ _ _ => rfl⟩
theorem ownsEmpty2 {w : World} {base e N : Nat} (h : w.heap[N]? = some (.cells #[] e)) (hb : base ≤ N) : w.ownsRow base e 2 (.slice (some ⟨N, 0, none⟩) 0 0) 0 [] :=
  ⟨rfl, Or.inr ⟨N, 0, #[], rfl, hb, h, Nat.le_refl _, Nat.zero_le _, rfl, rfl⟩⟩
theorem rowNews {w : World} {b off n : Nat} {l : List (Int × Int)} (hl : l.length = n) (h4 : ∀ j, j < n → w.cell? ⟨b, off + j * 2, none⟩ = some (.int .i64 (atL l j))) (h5 : ∀ j, j < n → w.cell? ⟨b, off + j * 2 + 1, none⟩ = some (.int .i64 (szL l j))) :
    ∀ (j : Nat) u, (cellsL l)[j]? = some u → w.cell? ((⟨b, off, none⟩ : Addr).add j) = some u := by
  intro j u hj
  have hlt : j < n * 2 := by
    have := (List.getElem?_eq_some_iff.1 hj).1
    rw [cellsL_len] at this; omega
  have ea : (⟨b, off, none⟩ : Addr).add j = ⟨b, off + j, none⟩ := by unfold Addr.add; split <;> simp_all
  rw [ea]
  rcases Nat.mod_two_eq_zero_or_one j with h | h
  · obtain ⟨i, rfl⟩ : ∃ i, j = i * 2 := ⟨j / 2, by omega⟩
    rw [(cellsL_at l i (by omega)).1] at hj
    rw [h4 i (by omega)]; exact hj
  · obtain ⟨i, rfl⟩ : ∃ i, j = i * 2 + 1 := ⟨j / 2, by omega⟩
    rw [(cellsL_at l i (by omega)).2] at hj
    rw [show off + (i * 2 + 1) = off + i * 2 + 1 by omega, h5 i (by omega)]; exact hj

section
variable {P : Program} {w : World} {o : Oper} {a : Act} {K : Act → World → Prop} {Q : Exit → Act → World → Prop}
/-- 'append([]T{}, l...)'. -/
theorem wp_append_row (s x : Operand) (t e : TypeId) (i : TypeInfo) (z : Value)
    (ho : o.op = .call { callee := .builtin .append, args := #[s, x], argTypes := #[t, t] }) (ht : P.underlying t = some (.slice e)) (hi : P.info? e = some i) (hz : i.zero = some z) (hsize : i.size = 2) (hby : i.bytes = 16) (hzs : z.cells.size = 2)
    (base N : Nat) (hs : a.eval s = .slice (some ⟨N, 0, none⟩) 0 0) (hN : w.heap[N]? = some (.cells #[] e)) (hb : base ≤ N) (hbase : base ≤ w.heap.size)
    (v : Value) (l : List (Int × Int)) (hx : a.eval x = v) (hr : RowAt w v l) (hlen : l.length ≤ 1000000)
    (h : ∀ g cap w', w'.ownsRow base e 2 (.slice (some ⟨g, 0, none⟩) l.length cap) l.length (cellsL l) → w.grownBy w' (some N) → K (a.put o.dst (.slice (some ⟨g, 0, none⟩) l.length cap)) w') : o.wp P a w K Q := by
  have hown := ownsEmpty2 hN hb
  rcases hr with ⟨rfl, rfl⟩ | ⟨b, off, n, cap, rfl, h2, h3, h4, h5⟩
  · have hrun := run_append_owned_none (P := P) w base t o.type e i 2 ht hi _ 0 [] hown
    unfold Oper.wp execOp
    simp only [ho, resolve, invoke, builtin, Sem.run_bind, Sem.run_pure, Result.andThen_ok, List.map_toArray, List.map_cons, List.map_nil, hs, hx, hrun]
    exact h N 0 w hown (grownBy_refl _ _)
  · subst h2
    rcases Nat.eq_zero_or_pos l.length with h0 | h0
    · obtain rfl : l = [] := by cases l <;> simp_all
      have hrun := run_append_room_cells (P := P) w t o.type e i ht hi N 0 0 0 ⟨b, off, none⟩ 0 cap [] (by simp) (fun j u hj => by simp at hj) (fun u hu => by simp at hu) (Nat.le_refl _) (fun j hj => absurd hj (by simp)) (fun j hj => absurd hj (by simp))
      unfold Oper.wp execOp
      simp only [ho, resolve, invoke, builtin, Sem.run_bind, Sem.run_pure, Result.andThen_ok, List.map_toArray, List.map_cons, List.map_nil, hs, hx, List.length_nil, hrun]
      exact h N 0 w hown (grownBy_refl _ _)
    · refine wp_append_lies w s x t ho base e i z 2 16 ht hi hz hsize hby hzs (by omega) (.slice (some ⟨N, 0, none⟩) 0 0) 0 [] hs hown ⟨b, off, none⟩ l.length cap (cellsL l) hx (cellsL_len l) (rowNews rfl h4 h5) (oneCells l) h0 (by unfold maxLen; omega) (by omega) hbase _ rfl ?_
      intro g cap' w' q1 q2 _ _
      rw [Nat.zero_add, List.nil_append] at q1
      have := h g cap' w' q1 q2
      rwa [Nat.zero_add]
end

end Go.Proofs.Ytaknbjjcgcmdlaa
