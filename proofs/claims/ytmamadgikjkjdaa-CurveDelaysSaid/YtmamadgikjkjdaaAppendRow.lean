/- A row of pairs appended to a row of one's own: at any row, none too. Nothing is said of the program here. -/
import Derived.Test.YtmamadgikjkjdaaConf
namespace Go.Proofs.Ytmamadgikjkjdaa
open Go Go.RowKit

theorem ownsCellsL {w : World} {a0 : Option Addr} {b off : Nat} {l : List (Int × Int)} {n cap : Nat} (_h : a0 = some ⟨b, off, none⟩ ∧ n ≤ cap) (hl : l.length = n) (h4 : ∀ j, j < n → w.cell? ⟨b, off + j * 2, none⟩ = some (.int .i64 (atL l j))) (h5 : ∀ j, j < n → w.cell? ⟨b, off + j * 2 + 1, none⟩ = some (.int .i64 (szL l j))) :
    ∀ (j : Nat) u, (cellsL l)[j]? = some u → w.cell? ((⟨b, off, none⟩ : Addr).add j) = some u := by
  intro j u hu
  have hlen := cellsL_len l
  have hj : j < l.length * 2 := by
    rcases Nat.lt_or_ge j (l.length * 2) with h | h
    · exact h
    · rw [List.getElem?_eq_none (by omega)] at hu; cases hu
  have ea : (⟨b, off, none⟩ : Addr).add j = ⟨b, off + j, none⟩ := by unfold Addr.add; split <;> simp_all
  rw [ea]
  obtain ⟨k, hk | hk⟩ : ∃ k, j = k * 2 ∨ j = k * 2 + 1 := ⟨j / 2, by omega⟩
  · subst hk
    have hk2 : k < l.length := by omega
    rw [(cellsL_at l k hk2).1] at hu
    cases hu
    exact h4 k (by omega)
  · subst hk
    have hk2 : k < l.length := by omega
    rw [(cellsL_at l k hk2).2] at hu
    cases hu
    have := h5 k (by omega)
    rwa [Nat.add_assoc] at this

section
variable {P : Program}
theorem run_appendL (w : World) (t ty : TypeId) (base : Nat) (e : TypeId) (i : TypeInfo) (z : Value) (ht : P.underlying t = some (.slice e)) (hi : P.info? e = some i) (hz : i.zero = some z) (hsize : i.size = 2) (hby : i.bytes = 16) (hzs : z.cells.size = 2)
    (v : Value) (n : Nat) (xs : List Value) (hown : w.ownsRow base e 2 v n xs) (X : Value) (l : List (Int × Int)) (hX : RowAt w X l) (hlen : n + l.length ≤ 1000) (hbase : base ≤ w.heap.size) :
    ∃ v' w', (Builtin.append_ #[t, t] ty #[v, X]).run P w = .ok v' w' ∧ w'.ownsRow base e 2 v' (n + l.length) (xs ++ cellsL l) ∧ w.grownBy w' v.ownBlock := by
  rcases hX with ⟨rfl, rfl⟩ | ⟨b, off, n', cap', rfl, h2, h3, h4, h5⟩
  · exact ⟨v, w, run_append_owned_none w base t ty e i 2 ht hi v n xs hown, by simpa [cellsL] using hown, World.grownBy.refl w _⟩
  · obtain ⟨v', w', hr, h6, h7, _, _⟩ := run_append_own_at (P := P) w base t ty e i z 2 16 ht hi hz hsize hby hzs (by decide) v n xs hown ⟨b, off, none⟩ n' cap' (cellsL l) (by rw [cellsL_len, h2]) (ownsCellsL ⟨rfl, h3.1⟩ h2 h4 h5) (oneCells l) (by unfold maxLen; omega) (by omega) hbase
    exact ⟨v', w', hr, by rw [h2]; exact h6, h7⟩

/-- THE LAW for the walk: whatever lay in blocks below 'base' stays. -/
theorem wpList_appendL {ops : Array Oper} {rest : List Oper} {o : Oper} {a : Act} {w : World} {Q : Exit → Act → World → Prop} (hgd : o.guard = none) (s x : Operand) (t : TypeId)
    (ho : o.op = .call { callee := .builtin .append, args := #[s, x], argTypes := #[t, t] })
    (base : Nat) (e : TypeId) (i : TypeInfo) (z : Value) (ht : P.underlying t = some (.slice e)) (hi : P.info? e = some i) (hz : i.zero = some z) (hsize : i.size = 2) (hby : i.bytes = 16) (hzs : z.cells.size = 2)
    (v : Value) (n : Nat) (xs : List Value) (hs : a.eval s = v) (hown : w.ownsRow base e 2 v n xs) (X : Value) (l : List (Int × Int)) (hx : a.eval x = X) (hX : RowAt w X l) (hlen : n + l.length ≤ 1000)
    (W : World) (hW : Keep W w) (hbW : W.heap.size = base)
    (h : ∀ v' w', w'.ownsRow base e 2 v' (n + l.length) (xs ++ cellsL l) → Keep W w' → wpList P ops Q rest (a.put o.dst v') w') : wpList P ops Q (o :: rest) a w :=
  wpList_plain hgd fun _ hK => by
    obtain ⟨v', w', hr, h2, h3⟩ := run_appendL (P := P) w t o.type base e i z ht hi hz hsize hby hzs v n xs hown X l hX hlen (by rw [← hbW]; exact hW.size)
    unfold Oper.wp execOp
    simp only [ho, resolve, invoke, builtin, Sem.run_bind, Sem.run_pure, Result.andThen_ok, List.map_toArray, List.map_cons, List.map_nil, hs, hx, hr]
    exact hK _ _ (h v' w' h2 (hW.byRow h3 (fun k hk => by have := (hown.lt k hk).1; omega)))
end
end Go.Proofs.Ytmamadgikjkjdaa
