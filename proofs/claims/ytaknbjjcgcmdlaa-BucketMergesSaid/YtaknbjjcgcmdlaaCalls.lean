/- What First, Conforms and Within of the package bucket return, at every bucket, trace and time; the same of the reference's Within and both. -/
import Derived.Test.YtaknbjjcgcmdlaaFirst
import Derived.Test.YtaknbjjcgcmdlaaMulN
namespace Go.Proofs.Ytaknbjjcgcmdlaa
open Go Go.RowKit

theorem check_is (B R E : Int) (w : World) (H : Hid (checkE B R = E)) : Calls Try.prog 15 #[.agg #[.int .i64 B, .int .i64 R]] w (Res (.int .i64 E) w) := by
  have := check_any B R w
  rwa [H.out] at this
theorem checkTrace_is (v : Value) (l : List (Int × Int)) (E : Int) (w : World) (h : Hid (RowAt w v l)) (H : Hid (traceE l = E)) : Calls Try.prog 20 #[v] w (Res (.int .i64 E) w) := by
  have := checkTrace_any v l w h.out
  rwa [H.out] at this
theorem firstBreach_is (B R E : Int) (v : Value) (l : List (Int × Int)) (w : World) (hBk : Hid (okBk B R = true)) (hok : Hid (okT l = true)) (h : Hid (RowAt w v l)) (H : Hid (firstL B R l = E)) :
    Calls Try.prog 23 #[.agg #[.int .i64 B, .int .i64 R], v] w (Res (.int .i64 E) w) := by
  have := firstBreach_any B R v l w hBk.out hok.out h.out
  rwa [H.out] at this

/-- First's results: the index, the error. -/
def firstR (B R : Int) (l : List (Int × Int)) : Int × Int := if okBk B R then (if okT l then (firstL B R l, 0) else (0, 131)) else (0, 130)
def Two (r : Int × Int) (w : World) : Ending → World → Prop := Res (.tuple #[.int .i64 r.1, .int .i64 r.2]) w

theorem first_any (B R : Int) (v : Value) (l : List (Int × Int)) (w : World) (h : RowAt w v l) : Calls Try.prog 17 #[.agg #[.int .i64 B, .int .i64 R], v] w (Two (firstR B R l) w) := by
  have HR := Lib.hid h
  clear h
  have k0 := Keep.alloc (Keep.refl w) (.cells #[.int .i64 B, .int .i64 R] 30)
  unfold firstR
  cases hb : okBk B R with
  | false =>
    have HC : Hid (checkE B R = 130) := Lib.hid (by unfold checkE; rw [hb]; rfl)
    rw [if_neg (by simp)]
    clear hb
    go_enter Try.func17, Try.ntmps17
    go_wp2_with (go_at_call 15; ((with_reducible refine (check_is B R _ _ HC).mono ?_); rintro e w1 ⟨rfl, k1⟩))
    go_ret2
    exact ⟨rfl, k0.trans k1⟩
  | true =>
    have HC : Hid (checkE B R = 0) := Lib.hid (by unfold checkE; rw [hb]; rfl)
    have HB := Lib.hid hb
    rw [if_pos rfl]
    clear hb
    cases ht : okT l with
    | false =>
      have HT : Hid (traceE l = 131) := Lib.hid (by unfold traceE; rw [ht]; rfl)
      rw [if_neg (by simp)]
      clear ht
      go_enter Try.func17, Try.ntmps17
      go_wp2_with (first | (go_at_call 15; ((with_reducible refine (check_is B R _ _ HC).mono ?_); rintro e w1 ⟨rfl, k1⟩)) | (go_at_call 20; ((with_reducible refine (checkTrace_is v l _ _ (Lib.hid (HR.out.keep (k0.trans (by assumption)))) HT).mono ?_); rintro e w2 ⟨rfl, k2⟩)))
      go_ret2
      exact ⟨rfl, (k0.trans k1).trans k2⟩
    | true =>
      have HT : Hid (traceE l = 0) := Lib.hid (by unfold traceE; rw [ht]; rfl)
      have HO := Lib.hid ht
      rw [if_pos rfl]
      clear ht
      obtain ⟨r, hr⟩ : ∃ r, firstL B R l = r := ⟨_, rfl⟩
      rw [hr]
      have HF := Lib.hid hr
      clear hr
      go_enter Try.func17, Try.ntmps17
      go_wp2_with (first | (go_at_call 15; ((with_reducible refine (check_is B R _ _ HC).mono ?_); rintro e w1 ⟨rfl, k1⟩)) | (go_at_call 20; ((with_reducible refine (checkTrace_is v l _ _ (Lib.hid (HR.out.keep (k0.trans k1))) HT).mono ?_); rintro e w2 ⟨rfl, k2⟩; have c0 := (k1.trans k2).some (b := w.heap.size) (o := 0) (v := .int .i64 B) (by simp [go_sem]); have c1 := (k1.trans k2).some (b := w.heap.size) (o := 1) (v := .int .i64 R) (by simp [go_sem]))) | (go_at_call 23; ((with_reducible refine (firstBreach_is B R _ v l _ HB HO (Lib.hid (HR.out.keep ((k0.trans k1).trans k2))) HF).mono ?_); rintro e w3 ⟨rfl, k3⟩)))
      go_ret2
      exact ⟨rfl, ((k0.trans k1).trans k2).trans k3⟩
theorem first_is (B R : Int) (v : Value) (l : List (Int × Int)) (n E : Int) (w : World) (h : Hid (RowAt w v l)) (H : Hid (firstR B R l = (n, E))) : Calls Try.prog 17 #[.agg #[.int .i64 B, .int .i64 R], v] w (Res (.tuple #[.int .i64 n, .int .i64 E]) w) := by
  have := first_any B R v l w h.out
  rw [H.out] at this
  exact this

/-- Conforms' results. -/
def conformsR (B R : Int) (l : List (Int × Int)) : Bool × Int := (decide ((firstR B R l).1 < 0), (firstR B R l).2)
theorem conforms_any (B R : Int) (v : Value) (l : List (Int × Int)) (w : World) (h : RowAt w v l) : Calls Try.prog 16 #[.agg #[.int .i64 B, .int .i64 R], v] w (Res (.tuple #[.bool (conformsR B R l).1, .int .i64 (conformsR B R l).2]) w) := by
  have HR := Lib.hid h
  clear h
  have k0 := Keep.alloc (Keep.refl w) (.cells #[.int .i64 B, .int .i64 R] 30)
  unfold conformsR
  obtain ⟨n, E, hr⟩ : ∃ n E, firstR B R l = (n, E) := ⟨_, _, rfl⟩
  rw [hr]
  have HF := Lib.hid hr
  clear hr
  go_enter Try.func16, Try.ntmps16
  go_wp2_with (go_at_call 17; ((with_reducible refine (first_is B R v l _ _ _ (Lib.hid (HR.out.keep k0)) HF).mono ?_); rintro e w1 ⟨rfl, k1⟩))
  go_ret2
  exact ⟨rfl, k0.trans k1⟩

/-- Within's results. -/
def withinR (B R t : Int) : Int × Int := if okBk B R then (if 0 ≤ t ∧ t ≤ 1099511627776 then (B + R * t / 1048576, 0) else (0, 2)) else (0, 130)
theorem gain_floor {R t : Int} (hR : 1 ≤ R ∧ R ≤ 2097152) (ht : 0 ≤ t ∧ t ≤ 1099511627776) : mulDivS R t 1048576 = (R * t / 1048576, true) := by
  have g := gain_bd hR ht
  have h1 : 0 ≤ R * t / 1048576 := Int.ediv_nonneg g.1 (by omega)
  have h2 : R * t / 1048576 ≤ 2199023255552 := by omega
  unfold mulDivS
  rw [if_pos ⟨(inB_iff _).2 (by omega), (inB_iff _).2 (by omega), (inB_iff _).2 (by omega), by omega⟩]
  unfold resS
  rw [if_pos ((inB_iff _).2 (by omega))]
theorem mulDiv_is (a b c q : Int) (f : Bool) (w : World) (H : Hid (mulDivS a b c = (q, f))) : Calls Try.prog 19 #[.int .i64 a, .int .i64 b, .int .i64 c] w (Res (.tuple #[.int .i64 q, .bool f]) w) := by
  have := mulDiv_any a b c w
  rw [H.out] at this
  exact this.mono fun e w' ⟨h1, h2⟩ => ⟨h1, keepOf h2.1⟩

theorem within_any (B R t : Int) (w : World) : Calls Try.prog 11 #[.agg #[.int .i64 B, .int .i64 R], .int .i64 t] w (Two (withinR B R t) w) := by
  have k0 := Keep.alloc (Keep.refl w) (.cells #[.int .i64 B, .int .i64 R] 30)
  unfold withinR
  cases hb : okBk B R with
  | false =>
    have HC : Hid (checkE B R = 130) := Lib.hid (by unfold checkE; rw [hb]; rfl)
    rw [if_neg (by simp)]
    clear hb
    go_enter Try.func11, Try.ntmps11
    go_wp2_with (go_at_call 15; ((with_reducible refine (check_is B R _ _ HC).mono ?_); rintro e w1 ⟨rfl, k1⟩))
    go_ret2
    exact ⟨rfl, k0.trans k1⟩
  | true =>
    have HC : Hid (checkE B R = 0) := Lib.hid (by unfold checkE; rw [hb]; rfl)
    have bk := okBk_iff.1 hb
    rw [if_pos rfl]
    clear hb
    by_cases ht : 0 ≤ t ∧ t ≤ 1099511627776
    · have HT : Hid ((decide (0 ≤ t) && decide (t ≤ 1099511627776)) = true) := Lib.hid (by simp [ht])
      have g := gain_bd bk.2.2 ht
      have hg := gain_floor bk.2.2 ht
      rw [if_pos ht]
      obtain ⟨G, hG⟩ : ∃ G, R * t / 1048576 = G := ⟨_, rfl⟩
      have gb : 0 ≤ G ∧ G ≤ 2199023255552 := by omega
      rw [hG] at hg ⊢
      have HG := Lib.hid hg
      clear hg hG g
      go_enter Try.func11, Try.ntmps11
      go_wp2_with (first | (go_at_call 15; ((with_reducible refine (check_is B R _ _ HC).mono ?_); rintro e w1 ⟨rfl, k1⟩; have c0 := k1.some (b := w.heap.size) (o := 0) (v := .int .i64 B) (by simp [go_sem]); have c1 := k1.some (b := w.heap.size) (o := 1) (v := .int .i64 R) (by simp [go_sem]))) | (go_at_call 18; ((with_reducible refine (between_is 0 t 1099511627776 _ _ HT).mono ?_); rintro e w' ⟨rfl, rfl⟩)) | (go_at_call 19; ((with_reducible refine (mulDiv_is R t 1048576 _ _ _ HG).mono ?_); rintro e w2 ⟨rfl, k2⟩; have d0 := k2.some c0)))
      go_ret2
      exact ⟨rfl, (k0.trans k1).trans k2⟩
    · have HT : Hid ((decide (0 ≤ t) && decide (t ≤ 1099511627776)) = false) := Lib.hid (by simp; omega)
      rw [if_neg ht]
      clear ht
      go_enter Try.func11, Try.ntmps11
      go_wp2_with (first | (go_at_call 15; ((with_reducible refine (check_is B R _ _ HC).mono ?_); rintro e w1 ⟨rfl, k1⟩)) | (go_at_call 18; ((with_reducible refine (between_is 0 t 1099511627776 _ _ HT).mono ?_); rintro e w' ⟨rfl, rfl⟩)))
      go_ret2
      exact ⟨rfl, k0.trans k1⟩

end Go.Proofs.Ytaknbjjcgcmdlaa
