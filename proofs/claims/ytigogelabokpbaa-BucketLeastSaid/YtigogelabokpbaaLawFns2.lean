/- What fits, first and bent of the statements' package return. -/
import Derived.Test.YtigogelabokpbaaLawFns
namespace Go.Proofs.Ytigogelabokpbaa
open Go Go.RowKit

theorem trace_is (v : Value) (zs : List Int) (l : List (Int × Int)) (w : World) (h : Hid (IntsAt w v zs)) (Hl : Hid (pairsL zs = l)) : Calls Try.prog 31 #[v] w (Makes l w) := by
  obtain ⟨b, off, n, cap, rfl, h2, h3, h4⟩ := h.out
  have := trace_row b off n cap zs w h2 h3 h4
  rwa [Hl.out] at this

theorem conforms_is (B R : Int) (v : Value) (l : List (Int × Int)) (c : Bool) (E : Int) (w : World) (h : Hid (RowAt w v l)) (H : Hid (conformsR B R l = (c, E))) : Calls Try.prog 23 #[.agg #[.int .i64 B, .int .i64 R], v] w (Res (.tuple #[.bool c, .int .i64 E]) w) := by
  have := conforms_any B R v l w h.out
  rwa [H.out] at this

/-- Whether the bucket and the trace are valid and the trace conforms. -/
def fitsV (B R : Int) (l : List (Int × Int)) : Bool := okBk B R && okT l && fitsL B R l
theorem fitsV_conforms (B R : Int) (l : List (Int × Int)) : (fitsV B R l = true ∧ conformsR B R l = (true, 0)) ∨ (fitsV B R l = false ∧ ∃ E, conformsR B R l = (false, E)) := by
  by_cases h : okBk B R = true ∧ okT l = true
  · rw [conformsR_yes h.1 h.2]
    unfold fitsV
    rw [h.1, h.2]
    cases fitsL B R l
    · exact Or.inr ⟨rfl, _, rfl⟩
    · exact Or.inl ⟨rfl, rfl⟩
  · rw [conformsR_no h]
    refine Or.inr ⟨?_, _, rfl⟩
    unfold fitsV
    cases h1 : okBk B R <;> cases h2 : okT l <;> simp_all

theorem lawFits_any (B R : Int) (v : Value) (l : List (Int × Int)) (w : World) (h : Hid (RowAt w v l)) (f : Bool) (Hf : Hid (fitsV B R l = f)) : Calls Try.prog 30 #[.agg #[.int .i64 B, .int .i64 R], v] w (Res (.bool f) w) := by
  have k0 := Keep.alloc (Keep.refl w) (.cells #[.int .i64 B, .int .i64 R] 23)
  have HR := Lib.hid (h.out.keep k0)
  rcases fitsV_conforms B R l with ⟨h1, h2⟩ | ⟨h1, E, h2⟩
  · obtain rfl : f = true := by rw [← Hf.out, h1]
    have HC := Lib.hid h2
    clear h1 h2 Hf h
    go_enter Try.func30, Try.ntmps30
    go_wp2_with (go_at_call 23; ((with_reducible refine (conforms_is B R v l _ _ _ HR HC).mono ?_); rintro e w1 ⟨rfl, k1⟩))
    go_ret
    exact ⟨rfl, k0.trans k1⟩
  · obtain rfl : f = false := by rw [← Hf.out, h1]
    have HC := Lib.hid h2
    clear h1 h2 Hf h
    go_enter Try.func30, Try.ntmps30
    go_wp2_with (go_at_call 23; ((with_reducible refine (conforms_is B R v l _ _ _ HR HC).mono ?_); rintro e w1 ⟨rfl, k1⟩))
    go_ret
    exact ⟨rfl, k0.trans k1⟩

def firstV (B R : Int) (l : List (Int × Int)) (n : Int) : Bool := decide ((firstR B R l).1 = n) && decide ((firstR B R l).2 = 0)
theorem lawFirst_any (B R : Int) (v : Value) (l : List (Int × Int)) (n : Int) (w : World) (h : Hid (RowAt w v l)) (f : Bool) (Hf : Hid (firstV B R l n = f)) : Calls Try.prog 29 #[.agg #[.int .i64 B, .int .i64 R], v, .int .i64 n] w (Res (.bool f) w) := by
  have k0 := Keep.alloc (Keep.refl w) (.cells #[.int .i64 B, .int .i64 R] 23)
  have HR := Lib.hid (h.out.keep k0)
  obtain ⟨m, E, hr⟩ : ∃ m E, firstR B R l = (m, E) := ⟨_, _, rfl⟩
  have hv : (decide (m = n) && decide (E = 0)) = f := by rw [← Hf.out]; unfold firstV; rw [hr]
  have HF := Lib.hid hr
  clear hr h Hf
  by_cases h1 : m = n
  · by_cases h2 : E = 0
    · obtain rfl : f = true := by rw [← hv]; simp [h1, h2]
      have e1 : (m == n) = true := by simp [h1]
      have e2 : (E == 0) = true := by simp [h2]
      clear hv h1 h2
      go_enter Try.func29, Try.ntmps29
      go_wp2_with (go_at_call 25; ((with_reducible refine (first_is B R v l _ _ _ HR HF).mono ?_); rintro e w1 ⟨rfl, k1⟩))
      go_ret
      exact ⟨rfl, k0.trans k1⟩
    · obtain rfl : f = false := by rw [← hv]; simp [h2]
      have e1 : (m == n) = true := by simp [h1]
      have e2 : (E == 0) = false := by simp [h2]
      clear hv h1 h2
      go_enter Try.func29, Try.ntmps29
      go_wp2_with (go_at_call 25; ((with_reducible refine (first_is B R v l _ _ _ HR HF).mono ?_); rintro e w1 ⟨rfl, k1⟩))
      go_ret
      exact ⟨rfl, k0.trans k1⟩
  · obtain rfl : f = false := by rw [← hv]; simp [h1]
    have e1 : (m == n) = false := by simp [h1]
    clear hv h1
    go_enter Try.func29, Try.ntmps29
    go_wp2_with (go_at_call 25; ((with_reducible refine (first_is B R v l _ _ _ HR HF).mono ?_); rintro e w1 ⟨rfl, k1⟩))
    go_ret
    exact ⟨rfl, k0.trans k1⟩

/-! ### bent -/
theorem cellsL_set : ∀ (l : List (Int × Int)) (j : Nat) (x y : Int), j < l.length → ((cellsL l).set (j * 2) (.int .i64 x)).set (j * 2 + 1) (.int .i64 y) = cellsL (l.set j (x, y))
  | [], j, _, _, h => by simp at h
  | p :: l, 0, _, _, _ => rfl
  | p :: l, j + 1, x, y, h => by
    have ih := cellsL_set l j x y (by simpa using h)
    have e1 : (j + 1) * 2 = j * 2 + 2 := by omega
    rw [e1]
    show ((Value.int .i64 p.1 :: Value.int .i64 p.2 :: cellsL l).set (j * 2 + 2) (.int .i64 x)).set (j * 2 + 2 + 1) (.int .i64 y) = Value.int .i64 p.1 :: Value.int .i64 p.2 :: cellsL (l.set j (x, y))
    rw [show j * 2 + 2 + 1 = (j * 2 + 1) + 1 + 1 by omega]
    simp only [List.set_cons_succ]
    rw [ih]
/-- bent's row: one arrival replaced. -/
def bentL (l : List (Int × Int)) (x y at_ : Int) : List (Int × Int) := if l.length = 0 then [] else l.set (at_ % l.length).toNat (x, y)

theorem wpList_append_row {P : Program} {w : World} {ops : Array Oper} {rest : List Oper} {o : Oper} {a : Act} {Q : Exit → Act → World → Prop} (hgd : o.guard = none) (s x : Operand) (t e : TypeId) (i : TypeInfo) (z : Value)
    (ho : o.op = .call { callee := .builtin .append, args := #[s, x], argTypes := #[t, t] }) (ht : P.underlying t = some (.slice e)) (hi : P.info? e = some i) (hz : i.zero = some z) (hsize : i.size = 2) (hby : i.bytes = 16) (hzs : z.cells.size = 2)
    (base N : Nat) (hs : a.eval s = .slice (some ⟨N, 0, none⟩) 0 0) (hN : w.heap[N]? = some (.cells #[] e)) (hb : base ≤ N) (hbase : base ≤ w.heap.size)
    (v : Value) (l : List (Int × Int)) (hx : a.eval x = v) (hr : RowAt w v l) (hlen : l.length ≤ 1000000)
    (h : ∀ g cap w', w'.ownsRow base e 2 (.slice (some ⟨g, 0, none⟩) l.length cap) l.length (cellsL l) → w.grownBy w' (some N) → wpList P ops Q rest (a.put o.dst (.slice (some ⟨g, 0, none⟩) l.length cap)) w') : wpList P ops Q (o :: rest) a w :=
  wpList_plain hgd fun _ hK => wp_append_row s x t e i z ho ht hi hz hsize hby hzs base N hs hN hb hbase v l hx hr hlen fun g cap w' q1 q2 => hK _ _ (h g cap w' q1 q2)

set_option maxHeartbeats 1000000 in
theorem bent_slice (a0 : Option Addr) (n cap : Nat) (l : List (Int × Int)) (x y p : Int) (w : World) (h : Hid (RowAt w (.slice a0 n cap) l)) (hlen : l.length ≤ 1000) (hp : 0 ≤ p ∧ p ≤ 255) :
    Calls Try.prog 19 #[.slice a0 n cap, .agg #[.int .i64 x, .int .i64 y], .int .u8 p] w (Makes (bentL l x y p) w) := by
  obtain ⟨i0, hi, hz0, hz1, hz2⟩ := info_parts infoArrival
  obtain ⟨m, hm⟩ : ∃ m, l.length = m := ⟨_, rfl⟩
  have k0 := (Keep.alloc (Keep.refl w) (.cells #[.int .i64 x, .int .i64 y] 30)).alloc (.cells #[] 30)
  have HR := Lib.hid (h.out.keep k0)
  have hN : ((w.alloc (.cells #[.int .i64 x, .int .i64 y] 30)).alloc (.cells #[] 30)).heap[w.heap.size + 1]? = some (.cells #[] 30) := by
    have := World.alloc_heap_new (w.alloc (.cells #[.int .i64 x, .int .i64 y] 30)) (.cells #[] 30)
    rwa [World.size_alloc] at this
  clear h
  have HN := Lib.hid hN
  clear hN
  rcases Nat.eq_zero_or_pos m with rfl | hpos
  · have hz : ¬ (0 < 0) := by omega
    have hl : l = [] := by cases l <;> simp_all
    go_enter Try.func19, Try.ntmps19
    go_wp2_with (at_builtin; refine wpList_append_row rfl _ _ 42 30 i0 (.agg #[.int .i64 0, .int .i64 0]) rfl Try.underlying42 hi hz0 hz1 hz2 rfl (w.heap.size + 1) (w.heap.size + 1) rfl HN.out (Nat.le_refl _) (by simp) _ l rfl HR.out (by omega) ?_; intro g cap1 w1 hown hgrow; have b0 := hgrow.cell (a := ⟨w.heap.size, 0, none⟩) (v := .int .i64 x) (by simp [go_sem]) (by simp); have b1 := hgrow.cell (a := ⟨w.heap.size, 1, none⟩) (v := .int .i64 y) (by simp [go_sem]) (by simp); have K1 := Lib.hid (k0.byRow hgrow (fun j hj => by cases hj; omega)); rw [hm] at hown ⊢; have HO := Lib.hid hown; clear hgrow hown)
    go_ret
    exact ⟨_, rfl, by unfold bentL; rw [if_pos hm]; have := rowAtOwns HO.out; rwa [hl] at this, K1.out, freshOwns HO.out (by omega)⟩
  · have hnz : ¬ m = 0 := by omega
    obtain ⟨j, hj⟩ : ∃ j, (p % (m : Int)).toNat = j := ⟨_, rfl⟩
    have hm0 : 0 ≤ p % (m : Int) := Int.emod_nonneg _ (by omega)
    have hmlt : p % (m : Int) < m := Int.emod_lt_of_pos _ (by omega)
    have hjm : j < m := by omega
    have hjm' : (j : Int) < (m : Int) := by omega
    have hw : IntKind.i64.wrap (p.tmod (m : Int)) = (j : Int) := by
      rw [Int.tmod_eq_emod_of_nonneg hp.1, IntWalk.i64_in _ (by omega)]; omega
    have hE : p % (m : Int) = (j : Int) := by omega
    have hT : p.tmod (m : Int) = (j : Int) := by rw [Int.tmod_eq_emod_of_nonneg hp.1]; omega
    have hwp : IntKind.i64.wrap p = p := IntWalk.i64_in _ (by omega)
    have hmz : ((m : Int) == 0) = false := by simp; omega
    have hmz' : ¬ (m : Int) = 0 := by omega
    have HB : Hid (bentL l x y p = l.set j (x, y)) := Lib.hid (by unfold bentL; rw [if_neg (by omega), hm, hj])
    clear hm0 hmlt hj
    go_enter Try.func19, Try.ntmps19
    go_wp2_with (at_builtin; refine wpList_append_row rfl _ _ 42 30 i0 (.agg #[.int .i64 0, .int .i64 0]) rfl Try.underlying42 hi hz0 hz1 hz2 rfl (w.heap.size + 1) (w.heap.size + 1) rfl HN.out (Nat.le_refl _) (by simp) _ l rfl HR.out (by omega) ?_; intro g cap1 w1 hown hgrow; have b0 := hgrow.cell (a := ⟨w.heap.size, 0, none⟩) (v := .int .i64 x) (by simp [go_sem]) (by simp); have b1 := hgrow.cell (a := ⟨w.heap.size, 1, none⟩) (v := .int .i64 y) (by simp [go_sem]) (by simp); have K1 := Lib.hid (k0.byRow hgrow (fun j hj => by cases hj; omega)); rw [hm] at hown ⊢; have HO := Lib.hid hown; clear hgrow hown)
    have q0 := (HO.out.cellAt (j * 2) (by omega)).trans (cellsL_at l j (by omega)).1
    have q1 := (HO.out.cellAt (j * 2 + 1) (by omega)).trans (cellsL_at l j (by omega)).2
    have e0 := HO.out.frozenAt (j * 2)
    have e1 := HO.out.frozenAt (j * 2 + 1)
    have hg : w.heap.size + 1 ≤ g := (HO.out.lt g rfl).1
    have hgne : ¬ w.heap.size = g := by omega
    go_region
    all_goals go_wp2
    all_goals go_ret
    have s1 := HO.out.drew.stored (j * 2) (.int .i64 x)
    have s2 := s1.1.stored (j * 2 + 1) (.int .i64 y)
    have hS := s2.1
    rw [cellsL_set l j x y (by omega)] at hS
    exact ⟨_, rfl, by rw [HB.out]; exact rowAtOwns hS, (K1.out.drew.setCell (by show w.heap.size ≤ g; omega) _).setCell (by show w.heap.size ≤ g; omega) _, freshOwns hS (by omega)⟩

theorem bent_is (v : Value) (l : List (Int × Int)) (x y p : Int) (l' : List (Int × Int)) (w : World) (h : Hid (RowAt w v l)) (hlen : l.length ≤ 1000) (hp : 0 ≤ p ∧ p ≤ 255) (Hl : Hid (bentL l x y p = l')) :
    Calls Try.prog 19 #[v, .agg #[.int .i64 x, .int .i64 y], .int .u8 p] w (Makes l' w) := by
  obtain ⟨a0, n, cap, rfl⟩ := h.out.slice
  rw [← Hl.out]
  exact bent_slice a0 n cap l x y p w h hlen hp

end Go.Proofs.Ytigogelabokpbaa
