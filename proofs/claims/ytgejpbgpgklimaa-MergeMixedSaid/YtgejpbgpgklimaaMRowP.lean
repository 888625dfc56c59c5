/- Rows of pieces in memory. Nothing is said of the program here. -/
import Derived.Test.YtgejpbgpgklimaaMCutM
import Derived.Test.YtgejpbgpgklimaaMMem
import Derived.Laws.AppendOwn
import Derived.Laws.OwnMore
import Derived.Maps.AppendAt
import Derived.OwnWalk
namespace Go.Proofs.Ytgejpbgpgklimaa
open Go Go.RowKit

def Pc.vals (p : Pc) : List Value := [.bool p.st, .int .i64 p.num, .int .i64 p.cnt, .string p.data]
def cellsP : List Pc → List Value
  | [] => []
  | p :: l => p.vals ++ cellsP l
theorem cellsP_length : ∀ l : List Pc, (cellsP l).length = l.length * 4
  | [] => rfl
  | p :: l => by
    simp only [cellsP, List.length_append, List.length_cons, cellsP_length l]
    show 4 + _ = _
    omega
theorem cellsP_append : ∀ l m : List Pc, cellsP (l ++ m) = cellsP l ++ cellsP m
  | [], m => rfl
  | p :: l, m => by simp only [cellsP, List.cons_append, cellsP_append l m, List.append_assoc]
theorem cellsP_one (p : Pc) : cellsP [p] = [.bool p.st, .int .i64 p.num, .int .i64 p.cnt, .string p.data] := rfl
theorem cellsP_at : ∀ (l : List Pc) (k : Nat) (p : Pc), l[k]? = some p → (cellsP l)[k * 4]? = some (.bool p.st) ∧ (cellsP l)[k * 4 + 1]? = some (.int .i64 p.num) ∧ (cellsP l)[k * 4 + 2]? = some (.int .i64 p.cnt) ∧ (cellsP l)[k * 4 + 3]? = some (.string p.data)
  | [], k, p, h => by simp at h
  | q :: l, 0, p, h => by
    obtain rfl : q = p := by simpa using h
    exact ⟨rfl, rfl, rfl, rfl⟩
  | q :: l, k + 1, p, h => by
    have := cellsP_at l k p (by simpa using h)
    have e : ∀ j, (cellsP (q :: l))[(k + 1) * 4 + j]? = (cellsP l)[k * 4 + j]? := fun j => by
      have h4 : q.vals.length = 4 := rfl
      rw [cellsP, List.getElem?_append_right (by rw [h4]; omega), h4]
      congr 1
      omega
    exact ⟨(e 0).trans this.1, (e 1).trans this.2.1, (e 2).trans this.2.2.1, (e 3).trans this.2.2.2⟩
theorem cellsP_cell (l : List Pc) : ∀ u ∈ cellsP l, u.oneCell' = true := by
  induction l with
  | nil => intro u h; cases h
  | cons p l ih =>
    intro u h
    rcases List.mem_append.1 h with h | h
    · simp only [Pc.vals, List.mem_cons, List.not_mem_nil, or_false] at h
      rcases h with rfl | rfl | rfl | rfl <;> rfl
    · exact ih u h

/-- A piece at a place. -/
def PcIn (w : World) (b i : Nat) (p : Pc) : Prop := w.cell? ⟨b, i, none⟩ = some (.bool p.st) ∧ w.cell? ⟨b, i + 1, none⟩ = some (.int .i64 p.num) ∧ w.cell? ⟨b, i + 2, none⟩ = some (.int .i64 p.cnt) ∧ w.cell? ⟨b, i + 3, none⟩ = some (.string p.data)
/-- A row of pieces of one's own. -/
def OwnP (w : World) (base : Nat) (v : Value) (l : List Pc) : Prop := w.ownsRow base 45 4 v l.length (cellsP l)
/-- A slice that reads as the list l. -/
def RowP (w : World) (v : Value) (l : List Pc) : Prop :=
  (v = .slice none 0 0 ∧ l = []) ∨ ∃ b off n cap, v = .slice (some ⟨b, off, none⟩) n cap ∧ l.length = n ∧ (n ≤ cap ∧ cap ≤ maxLen) ∧ ∀ j p, l[j]? = some p → PcIn w b (off + j * 4) p
theorem PcIn.keep {w w' : World} {b i : Nat} {p : Pc} (h : PcIn w b i p) (k : Keep w w') : PcIn w' b i p := ⟨k.some h.1, k.some h.2.1, k.some h.2.2.1, k.some h.2.2.2⟩
theorem RowP.keep {w w' : World} {v : Value} {l : List Pc} (h : RowP w v l) (k : Keep w w') : RowP w' v l := by
  rcases h with h | ⟨b, off, n, cap, h1, h2, h3, h4⟩
  · exact .inl h
  · exact .inr ⟨b, off, n, cap, h1, h2, h3, fun j p hj => (h4 j p hj).keep k⟩
theorem OwnP.nil (w : World) (base : Nat) : OwnP w base (.slice none 0 0) [] := World.ownsRow_nil w base _ 4
theorem OwnP.row {w : World} {base : Nat} {v : Value} {l : List Pc} (h : OwnP w base v l) : RowP w v l := by
  rcases h.2 with ⟨rfl, h0⟩ | ⟨g, cap, cur, rfl, hb, hg, hn, hm, hs, ht⟩
  · exact .inl ⟨rfl, List.length_eq_zero_iff.1 h0⟩
  · refine .inr ⟨g, 0, _, cap, rfl, rfl, ⟨hn, hm⟩, fun j p hj => ?_⟩
    have hjl : j < l.length := by
      rcases Nat.lt_or_ge j l.length with h1 | h1
      · exact h1
      · rw [List.getElem?_eq_none h1] at hj; cases hj
    obtain ⟨e0, e1, e2, e3⟩ := cellsP_at l j p hj
    have e : ∀ i u, i < l.length * 4 → (cellsP l)[i]? = some u → w.cell? ⟨g, 0 + i, none⟩ = some u := fun i u hi hu => by
      rw [Nat.zero_add, cell_of_row w g i cur _ (0, 0) hg, ← Array.getElem?_toList]
      rw [← ht, List.getElem?_take, if_pos hi] at hu
      exact hu
    exact ⟨e _ _ (by omega) e0, e _ _ (by omega) e1, e _ _ (by omega) e2, e _ _ (by omega) e3⟩
theorem OwnP.keep {w w' : World} {base : Nat} {v : Value} {l : List Pc} (h : OwnP w base v l) (k : Keep w w') : OwnP w' base v l := by
  refine ⟨h.1, ?_⟩
  rcases h.2 with h1 | ⟨g, cap, cur, h2, hb, hg, h3⟩
  · exact .inl h1
  · exact .inr ⟨g, cap, cur, h2, hb, keepRow k hg, h3⟩
theorem OwnP.base {w : World} {base base' : Nat} {v : Value} {l : List Pc} (h : OwnP w base v l) (hb : base' ≤ base) : OwnP w base' v l := by
  refine ⟨h.1, ?_⟩
  rcases h.2 with h1 | ⟨g, cap, cur, h2, hg, h3⟩
  · exact .inl h1
  · exact .inr ⟨g, cap, cur, h2, Nat.le_trans hb hg, h3⟩
theorem OwnP.x {w w' : World} {base R : Nat} {v : Value} {l : List Pc} (h : OwnP w base v l) (k : KeepX R w w') (hne : v.ownBlock ≠ some R) : OwnP w' base v l := by
  refine ⟨h.1, ?_⟩
  rcases h.2 with h1 | ⟨g, cap, cur, h2, hb, hg, h3⟩
  · exact .inl h1
  · refine .inr ⟨g, cap, cur, h2, hb, k.row hg (fun e => hne ?_), h3⟩
    rw [h2, ← e]; rfl
theorem infoPc : (Try.prog.info? 45).map (fun i => (i.zero, i.size, i.bytes)) = some (some (.agg #[.bool false, .int .i64 0, .int .i64 0, .string ⟨#[]⟩]), 4, 40) := by kernel_rfl
end Go.Proofs.Ytgejpbgpgklimaa
