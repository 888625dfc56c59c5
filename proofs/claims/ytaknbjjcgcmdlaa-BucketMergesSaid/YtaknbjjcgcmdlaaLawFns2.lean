/- What fits, first and bent of the statements' package return. -/
import Derived.Test.YtaknbjjcgcmdlaaLawFns
namespace Go.Proofs.Ytaknbjjcgcmdlaa
open Go Go.RowKit

theorem trace_is (v : Value) (zs : List Int) (l : List (Int × Int)) (w : World) (h : Hid (IntsAt w v zs)) (Hl : Hid (pairsL zs = l)) : Calls Try.prog 9 #[v] w (Makes l w) := by
  obtain ⟨b, off, n, cap, rfl, h2, h3, h4⟩ := h.out
  have := trace_row b off n cap zs w h2 h3 h4
  rwa [Hl.out] at this

theorem conforms_is (B R : Int) (v : Value) (l : List (Int × Int)) (c : Bool) (E : Int) (w : World) (h : Hid (RowAt w v l)) (H : Hid (conformsR B R l = (c, E))) : Calls Try.prog 16 #[.agg #[.int .i64 B, .int .i64 R], v] w (Res (.tuple #[.bool c, .int .i64 E]) w) := by
  have := conforms_any B R v l w h.out
  rwa [H.out] at this

/-- Whether the bucket and the trace are valid and the trace conforms. -/
def fitsV (B R : Int) (l : List (Int × Int)) : Bool := okBk B R && okT l && fitsL B R l
theorem fitsV_conforms (B R : Int) (l : List (Int × Int)) : (fitsV B R l = true ∧ conformsR B R l = (true, 0)) ∨ (fitsV B R l = false ∧ ∃ E, conformsR B R l = (false, E)) := by
  by_cases h : okBk B R = true ∧ okT l = true
  · rw [conformsR_yes h.1 h.2]
    unfold fitsV
    rw [h.1, h.2]
    cases fitsL B R l
    · exact Or.inr ⟨rfl, _, rfl⟩
    · exact Or.inl ⟨rfl, rfl⟩
  · rw [conformsR_no h]
    refine Or.inr ⟨?_, _, rfl⟩
    unfold fitsV
    cases h1 : okBk B R <;> cases h2 : okT l <;> simp_all

set_option maxRecDepth 100000 in
theorem lawFits_any (B R : Int) (v : Value) (l : List (Int × Int)) (w : World) (h : Hid (RowAt w v l)) (f : Bool) (Hf : Hid (fitsV B R l = f)) : Calls Try.prog 8 #[.agg #[.int .i64 B, .int .i64 R], v] w (Res (.bool f) w) := by
  have k0 := Keep.alloc (Keep.refl w) (.cells #[.int .i64 B, .int .i64 R] 30)
  have HR := Lib.hid (h.out.keep k0)
  rcases fitsV_conforms B R l with ⟨h1, h2⟩ | ⟨h1, E, h2⟩
  · obtain rfl : f = true := by rw [← Hf.out, h1]
    have HC := Lib.hid h2
    clear h1 h2 Hf h
    go_enter Try.func8, Try.ntmps8
    go_wp2_with (go_at_call 16; ((with_reducible refine (conforms_is B R v l _ _ _ HR HC).mono ?_); rintro e w1 ⟨rfl, k1⟩))
    go_ret
    exact ⟨rfl, k0.trans k1⟩
  · obtain rfl : f = false := by rw [← Hf.out, h1]
    have HC := Lib.hid h2
    clear h1 h2 Hf h
    go_enter Try.func8, Try.ntmps8
    go_wp2_with (go_at_call 16; ((with_reducible refine (conforms_is B R v l _ _ _ HR HC).mono ?_); rintro e w1 ⟨rfl, k1⟩))
    go_ret
    exact ⟨rfl, k0.trans k1⟩

def firstV (B R : Int) (l : List (Int × Int)) (n : Int) : Bool := decide ((firstR B R l).1 = n) && decide ((firstR B R l).2 = 0)
set_option maxRecDepth 100000 in
theorem lawFirst_any (B R : Int) (v : Value) (l : List (Int × Int)) (n : Int) (w : World) (h : Hid (RowAt w v l)) (f : Bool) (Hf : Hid (firstV B R l n = f)) : Calls Try.prog 10 #[.agg #[.int .i64 B, .int .i64 R], v, .int .i64 n] w (Res (.bool f) w) := by
  have k0 := Keep.alloc (Keep.refl w) (.cells #[.int .i64 B, .int .i64 R] 30)
  have HR := Lib.hid (h.out.keep k0)
  obtain ⟨m, E, hr⟩ : ∃ m E, firstR B R l = (m, E) := ⟨_, _, rfl⟩
  have hv : (decide (m = n) && decide (E = 0)) = f := by rw [← Hf.out]; unfold firstV; rw [hr]
  have HF := Lib.hid hr
  clear hr h Hf
  by_cases h1 : m = n
  · by_cases h2 : E = 0
    · obtain rfl : f = true := by rw [← hv]; simp [h1, h2]
      have e1 : (m == n) = true := by simp [h1]
      have e2 : (E == 0) = true := by simp [h2]
      clear hv h1 h2
      go_enter Try.func10, Try.ntmps10
      go_wp2_with (go_at_call 17; ((with_reducible refine (first_is B R v l _ _ _ HR HF).mono ?_); rintro e w1 ⟨rfl, k1⟩))
      go_ret
      exact ⟨rfl, k0.trans k1⟩
    · obtain rfl : f = false := by rw [← hv]; simp [h2]
      have e1 : (m == n) = true := by simp [h1]
      have e2 : (E == 0) = false := by simp [h2]
      clear hv h1 h2
      go_enter Try.func10, Try.ntmps10
      go_wp2_with (go_at_call 17; ((with_reducible refine (first_is B R v l _ _ _ HR HF).mono ?_); rintro e w1 ⟨rfl, k1⟩))
      go_ret
      exact ⟨rfl, k0.trans k1⟩
  · obtain rfl : f = false := by rw [← hv]; simp [h1]
    have e1 : (m == n) = false := by simp [h1]
    clear hv h1
    go_enter Try.func10, Try.ntmps10
    go_wp2_with (go_at_call 17; ((with_reducible refine (first_is B R v l _ _ _ HR HF).mono ?_); rintro e w1 ⟨rfl, k1⟩))
    go_ret
    exact ⟨rfl, k0.trans k1⟩

/-! ### bent -/
theorem cellsL_set : ∀ (l : List (Int × Int)) (j : Nat) (x y : Int), j < l.length → ((cellsL l).set (j * 2) (.int .i64 x)).set (j * 2 + 1) (.int .i64 y) = cellsL (l.set j (x, y))
  | [], j, _, _, h => by simp at h
  | p :: l, 0, _, _, _ => rfl
  | p :: l, j + 1, x, y, h => by
    have ih := cellsL_set l j x y (by simpa using h)
    have e1 : (j + 1) * 2 = j * 2 + 2 := by omega
    rw [e1]
    show ((Value.int .i64 p.1 :: Value.int .i64 p.2 :: cellsL l).set (j * 2 + 2) (.int .i64 x)).set (j * 2 + 2 + 1) (.int .i64 y) = Value.int .i64 p.1 :: Value.int .i64 p.2 :: cellsL (l.set j (x, y))
    rw [show j * 2 + 2 + 1 = (j * 2 + 1) + 1 + 1 by omega]
    simp only [List.set_cons_succ]
    rw [ih]
/-- bent's row: one arrival replaced. -/
def bentL (l : List (Int × Int)) (x y at_ : Int) : List (Int × Int) := if l.length = 0 then [] else l.set (at_ % l.length).toNat (x, y)

theorem wpList_append_row {P : Program} {w : World} {ops : Array Oper} {rest : List Oper} {o : Oper} {a : Act} {Q : Exit → Act → World → Prop} (hgd : o.guard = none) (s x : Operand) (t e : TypeId) (i : TypeInfo) (z : Value)
    (ho : o.op = .call { callee := .builtin .append, args := #[s, x], argTypes := #[t, t] }) (ht : P.underlying t = some (.slice e)) (hi : P.info? e = some i) (hz : i.zero = some z) (hsize : i.size = 2) (hby : i.bytes = 16) (hzs : z.cells.size = 2)
    (base N : Nat) (hs : a.eval s = .slice (some ⟨N, 0, none⟩) 0 0) (hN : w.heap[N]? = some (.cells #[] e)) (hb : base ≤ N) (hbase : base ≤ w.heap.size)
    (v : Value) (l : List (Int × Int)) (hx : a.eval x = v) (hr : RowAt w v l) (hlen : l.length ≤ 1000000)
    (h : ∀ g cap w', w'.ownsRow base e 2 (.slice (some ⟨g, 0, none⟩) l.length cap) l.length (cellsL l) → w.grownBy w' (some N) → wpList P ops Q rest (a.put o.dst (.slice (some ⟨g, 0, none⟩) l.length cap)) w') : wpList P ops Q (o :: rest) a w :=
  wpList_plain hgd fun _ hK => wp_append_row s x t e i z ho ht hi hz hsize hby hzs base N hs hN hb hbase v l hx hr hlen fun g cap w' q1 q2 => hK _ _ (h g cap w' q1 q2)

end Go.Proofs.Ytaknbjjcgcmdlaa
