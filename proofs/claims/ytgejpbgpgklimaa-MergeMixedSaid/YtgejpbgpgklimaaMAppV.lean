/- A row appended to a row of one's own, of any element type; slices of integers cut. -/
import Derived.Test.YtgejpbgpgklimaaMOffs
import Derived.Test.YtgejpbgpgklimaaMRowP
import Derived.Laws.IdiomArrays
namespace Go.Proofs.Ytgejpbgpgklimaa
open Go Go.RowKit

/-- A slice value that reads as m elements, in cells. -/
def Reads (w : World) (X : Value) (m : Nat) (size : Nat) (news : List Value) : Prop :=
  (X = .slice none 0 0 ∧ m = 0 ∧ news = []) ∨ ∃ a c, X = .slice (some a) m c ∧ news.length = m * size ∧ ∀ j u, news[j]? = some u → w.cell? (a.add j) = some u
theorem add_at (b off j : Nat) : (⟨b, off, none⟩ : Addr).add j = ⟨b, off + j, none⟩ := by unfold Addr.add; split <;> simp_all
section
variable {P : Program}
theorem run_appendV (w : World) (t ty : TypeId) (base : Nat) (e : TypeId) (i : TypeInfo) (z : Value) (size bytes : Nat) (ht : P.underlying t = some (.slice e)) (hi : P.info? e = some i) (hz : i.zero = some z) (hsize : i.size = size) (hby : i.bytes = bytes) (hzs : z.cells.size = size) (hsz : 0 < size)
    (v : Value) (n : Nat) (xs : List Value) (hown : w.ownsRow base e size v n xs) (X : Value) (m : Nat) (news : List Value) (hX : Reads w X m size news) (h1 : ∀ u ∈ news, u.oneCell' = true) (hlen : n + m ≤ maxLen) (hb : (n + m) * bytes ≤ 140737488355328) (hbase : base ≤ w.heap.size) :
    ∃ v' w', (Builtin.append_ #[t, t] ty #[v, X]).run P w = .ok v' w' ∧ w'.ownsRow base e size v' (n + m) (xs ++ news) ∧ w.grownBy w' v.ownBlock := by
  rcases hX with ⟨rfl, rfl, rfl⟩ | ⟨a, c, rfl, h2, h3⟩
  · exact ⟨v, w, run_append_owned_none w base t ty e i size ht hi v n xs hown, by simpa using hown, World.grownBy.refl w _⟩
  · obtain ⟨v', w', hr, h6, h7, _, _⟩ := run_append_own_at (P := P) w base t ty e i z size bytes ht hi hz hsize hby hzs hsz v n xs hown a m c news h2 h3 h1 hlen hb hbase
    exact ⟨v', w', hr, h6, h7⟩
theorem wpList_appendV {ops : Array Oper} {rest : List Oper} {o : Oper} {a : Act} {w : World} {Q : Exit → Act → World → Prop} (hgd : o.guard = none) (s x : Operand) (t : TypeId)
    (ho : o.op = .call { callee := .builtin .append, args := #[s, x], argTypes := #[t, t] })
    (base : Nat) (e : TypeId) (i : TypeInfo) (z : Value) (size bytes : Nat) (ht : P.underlying t = some (.slice e)) (hi : P.info? e = some i) (hz : i.zero = some z) (hsize : i.size = size) (hby : i.bytes = bytes) (hzs : z.cells.size = size) (hsz : 0 < size)
    (v : Value) (n : Nat) (xs : List Value) (hs : a.eval s = v) (hown : w.ownsRow base e size v n xs) (X : Value) (m : Nat) (news : List Value) (hx : a.eval x = X) (hX : Reads w X m size news) (h1 : ∀ u ∈ news, u.oneCell' = true) (hlen : n + m ≤ maxLen) (hb : (n + m) * bytes ≤ 140737488355328) (hbase : base ≤ w.heap.size)
    (h : ∀ v' w', w'.ownsRow base e size v' (n + m) (xs ++ news) → w.grownBy w' v.ownBlock → wpList P ops Q rest (a.put o.dst v') w') : wpList P ops Q (o :: rest) a w :=
  wpList_plain hgd fun _ hK => by
    obtain ⟨v', w', hr, h2, h3⟩ := run_appendV (P := P) w t o.type base e i z size bytes ht hi hz hsize hby hzs hsz v n xs hown X m news hX h1 hlen hb hbase
    unfold Oper.wp execOp
    simp only [ho, resolve, invoke, builtin, Sem.run_bind, Sem.run_pure, Result.andThen_ok, List.map_toArray, List.map_cons, List.map_nil, hs, hx, hr]
    exact hK _ _ (h v' w' h2 h3)
end
theorem reads_ints {w : World} {v : Value} {zs : List Int} (h : ListAt w v zs) : Reads w v zs.length 1 (zs.map (Value.int .i64)) := by
  rcases h with ⟨rfl, rfl⟩ | ⟨b, off, n, cap, rfl, rfl, h3, h4⟩
  · exact .inl ⟨rfl, rfl, rfl⟩
  · refine .inr ⟨_, cap, rfl, by simp, fun j u hj => ?_⟩
    have hjl : j < zs.length := by
      rcases Nat.lt_or_ge j zs.length with h1 | h1
      · exact h1
      · rw [List.getElem?_eq_none (by simpa using h1)] at hj; cases hj
    rw [add_at, h4 j hjl, ← hj]
    simp [List.getD, hjl]
theorem reads_pcs {w : World} {v : Value} {l : List Pc} (h : RowP w v l) : Reads w v l.length 4 (cellsP l) := by
  rcases h with ⟨rfl, rfl⟩ | ⟨b, off, n, cap, rfl, rfl, h3, h4⟩
  · exact .inl ⟨rfl, rfl, rfl⟩
  · refine .inr ⟨_, cap, rfl, cellsP_length l, fun j u hj => ?_⟩
    have hjl : j < l.length * 4 := by
      rcases Nat.lt_or_ge j (l.length * 4) with h1 | h1
      · exact h1
      · rw [List.getElem?_eq_none (by rw [cellsP_length]; exact h1)] at hj; cases hj
    obtain ⟨p, hp⟩ : ∃ p, l[j / 4]? = some p := ⟨l[j / 4], List.getElem?_eq_getElem (by omega)⟩
    obtain ⟨e0, e1, e2, e3⟩ := cellsP_at l (j / 4) p hp
    obtain ⟨c0, c1, c2, c3⟩ := h4 (j / 4) p hp
    rw [add_at]
    have hd : j = j / 4 * 4 + j % 4 := by omega
    have hm : j % 4 = 0 ∨ j % 4 = 1 ∨ j % 4 = 2 ∨ j % 4 = 3 := by omega
    rcases hm with hm | hm | hm | hm
    · rw [hm] at hd; rw [hd] at hj ⊢; rw [Nat.add_zero] at hj ⊢; rw [e0] at hj; cases hj; exact c0
    · rw [hm] at hd; rw [hd] at hj ⊢; rw [e1] at hj; cases hj; rw [← Nat.add_assoc]; exact c1
    · rw [hm] at hd; rw [hd] at hj ⊢; rw [e2] at hj; cases hj; rw [← Nat.add_assoc]; exact c2
    · rw [hm] at hd; rw [hd] at hj ⊢; rw [e3] at hj; cases hj; rw [← Nat.add_assoc]; exact c3
theorem ints_one (zs : List Int) : ∀ u ∈ zs.map (Value.int .i64), u.oneCell' = true := by
  intro u hu
  obtain ⟨z, -, rfl⟩ := List.mem_map.1 hu
  rfl
set_option maxRecDepth 100000 in
theorem cuts_to (a : Option Addr) (n cap m : Nat) (h : m ≤ cap) (w : World) : (Instr.slice 26 (.slice a n cap) none (some (.int .i64 (m : Int))) none).run Try.prog w = .ok (.slice a m cap) w := by
  rw [run_slice_h (ht := Try.underlying26) (h0 := by omega) (h2 := by omega)]
  have ea : a.map (fun x => x.add 0) = a := by
    cases a with
    | none => rfl
    | some x => cases x; simp [Addr.add]
  have hs : (sizeOf (Try.prog.elem 26)).run Try.prog w = .ok 1 w := by simp [go_sem]
  rw [hs]
  simp [sliced, Result.andThen, ea]
theorem ListAt.cut {w : World} {a : Option Addr} {n cap m : Nat} {l : List Int} (h : ListAt w (.slice a n cap) l) (hm : m ≤ n) : ListAt w (.slice a m cap) (l.take m) := by
  rcases h with ⟨h, rfl⟩ | ⟨b, off, n', cap', h1, h2, h3, h4⟩
  · cases h
    obtain rfl : m = 0 := by omega
    exact .inl ⟨rfl, by simp⟩
  · cases h1
    exact .inr ⟨b, off, m, cap, rfl, by rw [List.length_take]; omega, by omega, fun j hj => by rw [h4 j (by omega)]; simp [List.getD, hj]⟩
end Go.Proofs.Ytgejpbgpgklimaa
