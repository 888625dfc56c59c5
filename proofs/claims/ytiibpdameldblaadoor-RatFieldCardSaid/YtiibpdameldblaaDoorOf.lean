/- What Of of the reference returns: some valid fraction, whatever the world. -/
import Derived.Test.YtiibpdameldblaaDoorRefMake
namespace Go.Proofs.YtiibpdameldblaaDoor
open Go Go.RowKit

theorem makeS_ok (n d p q : Int) (e : makeS n d = (p, q, 0)) : okR p q = true := by
  unfold makeS at e
  split at e
  · simp at e
  · split at e
    · split at e
      · exact makeP_ok (-n) (-d) p q (by omega) e
      · exact makeP_ok n d p q (by omega) e
    · simp at e

def ofA (n d : Int) : Int × Int × Int := makeS (n.tmod 4096) (wrap64 (1 + wrap64 ((IntKind.u64.wrap d).tmod 64)))
def ofB (n d : Int) : Int × Int × Int := makeS (n.tmod 2147483648) (wrap64 (1 + wrap64 ((IntKind.u64.wrap d).tmod 1073741824)))
def ofC (r : Int × Int × Int) : Int × Int := if r.2.2 = 0 then (r.1, r.2.1) else (1, 2)
def ofS (n d : Int) : Int × Int := if ((IntKind.u64.wrap d).tmod 7 == 0) = true then ofC (ofB n d) else ofC (ofA n d)

theorem ofC_ok (n d : Int) : okR (ofC (makeS n d)).1 (ofC (makeS n d)).2 = true := by
  obtain ⟨⟨p, q, e⟩, h⟩ : ∃ r, makeS n d = r := ⟨_, rfl⟩
  rw [h]
  unfold ofC
  by_cases he : e = 0
  · subst he
    exact makeS_ok n d p q h
  · rw [if_neg he]; decide
theorem ofS_ok (n d : Int) : okR (ofS n d).1 (ofS n d).2 = true := by
  unfold ofS ofA ofB
  split
  · exact ofC_ok _ _
  · exact ofC_ok _ _

/-- Two cells that were stored, read behind an allocation. -/
theorem read_past1 {w1 : World} {B : Nat} {u0 u1 : Value} (h0 : w1.cell? ⟨B, 0, none⟩ = some u0) (h1 : w1.cell? ⟨B, 1, none⟩ = some u1) (v0 v1 : Value) (a : Array Value) (t : TypeId) :
    (((w1.setCell ⟨B, 0, none⟩ v0).setCell ⟨B, 1, none⟩ v1).alloc (.cells a t)).cell? ⟨B, 0, none⟩ = some v0 ∧
    (((w1.setCell ⟨B, 0, none⟩ v0).setCell ⟨B, 1, none⟩ v1).alloc (.cells a t)).cell? ⟨B, 1, none⟩ = some v1 :=
  ⟨grownSome (Grown.alloc (Grown.refl _) _ _) (by simp [go_sem, h0]), grownSome (Grown.alloc (Grown.refl _) _ _) (by simp [go_sem, h1])⟩

/-- 'e' is the fraction r, and the world has only grown. -/
def One (r : Int × Int) (w : World) (e : Ending) (w' : World) : Prop := e = .returned (.agg #[.int .i64 r.1, .int .i64 r.2]) ∧ Grown w w'

set_option maxHeartbeats 1000000 in
theorem of_a (n d p q e : Int) (w : World) (t : ((IntKind.u64.wrap d).tmod 7 == 0) = false) (HA : Hid (makeS (n.tmod 4096) (wrap64 (1 + wrap64 ((IntKind.u64.wrap d).tmod 64))) = (p, q, e))) (he : e = 0) :
    Calls Tryd.prog 43 #[.int .i64 n, .int .i64 d] w (One (p, q) w) := by
  subst he
  go_enter Tryd.func43, Tryd.ntmps43
  go_wp2_with fail
  go_at_call 11
  refine (refmake_is _ _ _ HA.out _).mono ?_
  rintro _ w1 ⟨rfl, hg1⟩
  have c00 : w1.cell? ⟨w.heap.size, 0, none⟩ = some (.int .i64 0) := grownSome hg1 (by simp [go_sem])
  have fc00 : w1.frozen? ⟨w.heap.size, 0, none⟩ = false := (hg1.2.1 _).trans (by simp [go_sem])
  have c01 : w1.cell? ⟨w.heap.size, 1, none⟩ = some (.int .i64 0) := grownSome hg1 (by simp [go_sem])
  have fc01 : w1.frozen? ⟨w.heap.size, 1, none⟩ = false := (hg1.2.1 _).trans (by simp [go_sem])
  have G1 : Hid (Grown w w1) := Lib.hid (grownTrans (by go_grown) hg1)
  clear hg1
  have S0 : Hid (∀ (W' : World) (o : Nat) (v : Value), Grown w W' → Grown w (W'.setCell ⟨w.heap.size, o, none⟩ v)) := Lib.hid (fun W' o v h => h.setCell (by show w.heap.size ≤ w.heap.size; omega) v)
  generalize w.heap.size = B0 at *
  have lt : B0 < w1.heap.size := cellBlock c00
  have l1 : ¬ B0 = w1.heap.size := by omega
  have l2 : ¬ w1.heap.size = B0 := by omega
  have GX : Hid (∀ a t, Grown w (w1.alloc (.cells a t))) := Lib.hid (fun _ _ => Grown.alloc G1.out _ _)
  have SX : Hid (∀ (W' : World) (o : Nat) (v : Value), Grown w W' → Grown w (W'.setCell ⟨w1.heap.size, o, none⟩ v)) := Lib.hid (fun W' o v h => h.setCell (by show w.heap.size ≤ w1.heap.size; exact G1.out.2.2) v)
  go_wp2_with fail
  exact bodyPost_ret (v := .agg #[.int .i64 p, .int .i64 q]) (by simp [results, Tryd.results43, go_sem, (read_past1 c00 c01 _ _ _ _).1, (read_past1 c00 c01 _ _ _ _).2]) rfl ⟨rfl, Grown.alloc (S0.out _ _ _ (S0.out _ _ _ G1.out)) _ _⟩

set_option maxHeartbeats 1000000 in
theorem of_a2 (n d p q e : Int) (w : World) (t : ((IntKind.u64.wrap d).tmod 7 == 0) = false) (HA : Hid (makeS (n.tmod 4096) (wrap64 (1 + wrap64 ((IntKind.u64.wrap d).tmod 64))) = (p, q, e))) (he : ¬ e = 0) :
    Calls Tryd.prog 43 #[.int .i64 n, .int .i64 d] w (One (1, 2) w) := by
  go_enter Tryd.func43, Tryd.ntmps43
  go_wp2_with fail
  go_at_call 11
  refine (refmake_is _ _ _ HA.out _).mono ?_
  rintro _ w1 ⟨rfl, hg1⟩
  have c00 : w1.cell? ⟨w.heap.size, 0, none⟩ = some (.int .i64 0) := grownSome hg1 (by simp [go_sem])
  have fc00 : w1.frozen? ⟨w.heap.size, 0, none⟩ = false := (hg1.2.1 _).trans (by simp [go_sem])
  have c01 : w1.cell? ⟨w.heap.size, 1, none⟩ = some (.int .i64 0) := grownSome hg1 (by simp [go_sem])
  have fc01 : w1.frozen? ⟨w.heap.size, 1, none⟩ = false := (hg1.2.1 _).trans (by simp [go_sem])
  have G1 : Hid (Grown w w1) := Lib.hid (grownTrans (by go_grown) hg1)
  clear hg1
  have S0 : Hid (∀ (W' : World) (o : Nat) (v : Value), Grown w W' → Grown w (W'.setCell ⟨w.heap.size, o, none⟩ v)) := Lib.hid (fun W' o v h => h.setCell (by show w.heap.size ≤ w.heap.size; omega) v)
  generalize w.heap.size = B0 at *
  have lt : B0 < w1.heap.size := cellBlock c00
  have l1 : ¬ B0 = w1.heap.size := by omega
  have l2 : ¬ w1.heap.size = B0 := by omega
  have GX : Hid (∀ a t, Grown w (w1.alloc (.cells a t))) := Lib.hid (fun _ _ => Grown.alloc G1.out _ _)
  have SX : Hid (∀ (W' : World) (o : Nat) (v : Value), Grown w W' → Grown w (W'.setCell ⟨w1.heap.size, o, none⟩ v)) := Lib.hid (fun W' o v h => h.setCell (by show w.heap.size ≤ w1.heap.size; exact G1.out.2.2) v)
  go_wp2_with fail
  exact bodyPost_ret (v := .agg #[.int .i64 1, .int .i64 2]) (by simp [results, Tryd.results43, go_sem, (read_past1 c00 c01 _ _ _ _).1, (read_past1 c00 c01 _ _ _ _).2]) rfl ⟨rfl, Grown.alloc (S0.out _ _ _ (S0.out _ _ _ G1.out)) _ _⟩

set_option maxHeartbeats 1000000 in
theorem of_b (n d p q e p' q' e' : Int) (w : World) (t : ((IntKind.u64.wrap d).tmod 7 == 0) = true) (HA : Hid (makeS (n.tmod 4096) (wrap64 (1 + wrap64 ((IntKind.u64.wrap d).tmod 64))) = (p, q, e))) (HB : Hid (makeS (n.tmod 2147483648) (wrap64 (1 + wrap64 ((IntKind.u64.wrap d).tmod 1073741824))) = (p', q', e'))) (he : e' = 0) :
    Calls Tryd.prog 43 #[.int .i64 n, .int .i64 d] w (One (p', q') w) := by
  subst he
  go_enter Tryd.func43, Tryd.ntmps43
  go_wp2_with fail
  go_at_call 11
  refine (refmake_is _ _ _ HA.out _).mono ?_
  rintro _ w1 ⟨rfl, hg1⟩
  have c00 : w1.cell? ⟨w.heap.size, 0, none⟩ = some (.int .i64 0) := grownSome hg1 (by simp [go_sem])
  have fc00 : w1.frozen? ⟨w.heap.size, 0, none⟩ = false := (hg1.2.1 _).trans (by simp [go_sem])
  have c01 : w1.cell? ⟨w.heap.size, 1, none⟩ = some (.int .i64 0) := grownSome hg1 (by simp [go_sem])
  have fc01 : w1.frozen? ⟨w.heap.size, 1, none⟩ = false := (hg1.2.1 _).trans (by simp [go_sem])
  have G1 : Hid (Grown w w1) := Lib.hid (grownTrans (by go_grown) hg1)
  clear hg1
  have S0 : Hid (∀ (W' : World) (o : Nat) (v : Value), Grown w W' → Grown w (W'.setCell ⟨w.heap.size, o, none⟩ v)) := Lib.hid (fun W' o v h => h.setCell (by show w.heap.size ≤ w.heap.size; omega) v)
  generalize w.heap.size = B0 at *
  have lt : B0 < w1.heap.size := cellBlock c00
  have l1 : ¬ B0 = w1.heap.size := by omega
  have l2 : ¬ w1.heap.size = B0 := by omega
  have GX : Hid (∀ a t, Grown w (w1.alloc (.cells a t))) := Lib.hid (fun _ _ => Grown.alloc G1.out _ _)
  have SX : Hid (∀ (W' : World) (o : Nat) (v : Value), Grown w W' → Grown w (W'.setCell ⟨w1.heap.size, o, none⟩ v)) := Lib.hid (fun W' o v h => h.setCell (by show w.heap.size ≤ w1.heap.size; exact G1.out.2.2) v)
  go_wp2_with fail
  go_at_call 11
  refine (refmake_is _ _ _ HB.out _).mono ?_
  rintro _ w2 ⟨rfl, hg2⟩
  have d00 : w2.cell? ⟨B0, 0, none⟩ = some (.int .i64 0) := grownSome hg2 (grownSome (Grown.alloc (Grown.refl _) _ _) c00)
  have d01 : w2.cell? ⟨B0, 1, none⟩ = some (.int .i64 0) := grownSome hg2 (grownSome (Grown.alloc (Grown.refl _) _ _) c01)
  have fd00 : w2.frozen? ⟨B0, 0, none⟩ = false := (hg2.2.1 _).trans (by simp [go_sem, *])
  have fd01 : w2.frozen? ⟨B0, 1, none⟩ = false := (hg2.2.1 _).trans (by simp [go_sem, *])
  have x00 : w2.cell? ⟨w1.heap.size, 0, none⟩ = some (.int .i64 p) := grownSome hg2 (by simp [go_sem])
  have x01 : w2.cell? ⟨w1.heap.size, 1, none⟩ = some (.int .i64 q) := grownSome hg2 (by simp [go_sem])
  have fx00 : w2.frozen? ⟨w1.heap.size, 0, none⟩ = false := (hg2.2.1 _).trans (by simp [go_sem])
  have fx01 : w2.frozen? ⟨w1.heap.size, 1, none⟩ = false := (hg2.2.1 _).trans (by simp [go_sem])
  have G2 : Hid (Grown w w2) := Lib.hid (grownTrans (GX.out _ _) hg2)
  clear hg2 GX c00 c01 fc00 fc01 lt
  generalize w1.heap.size = X at *
  go_wp2_with fail
  exact bodyPost_ret (v := .agg #[.int .i64 p', .int .i64 q']) (by simp [results, Tryd.results43, go_sem, d00, d01]) rfl ⟨rfl, S0.out _ _ _ (S0.out _ _ _ (SX.out _ _ _ (SX.out _ _ _ G2.out)))⟩

set_option maxHeartbeats 1000000 in
theorem of_b2 (n d p q e p' q' e' : Int) (w : World) (t : ((IntKind.u64.wrap d).tmod 7 == 0) = true) (HA : Hid (makeS (n.tmod 4096) (wrap64 (1 + wrap64 ((IntKind.u64.wrap d).tmod 64))) = (p, q, e))) (HB : Hid (makeS (n.tmod 2147483648) (wrap64 (1 + wrap64 ((IntKind.u64.wrap d).tmod 1073741824))) = (p', q', e'))) (he : ¬ e' = 0) :
    Calls Tryd.prog 43 #[.int .i64 n, .int .i64 d] w (One (1, 2) w) := by
  go_enter Tryd.func43, Tryd.ntmps43
  go_wp2_with fail
  go_at_call 11
  refine (refmake_is _ _ _ HA.out _).mono ?_
  rintro _ w1 ⟨rfl, hg1⟩
  have c00 : w1.cell? ⟨w.heap.size, 0, none⟩ = some (.int .i64 0) := grownSome hg1 (by simp [go_sem])
  have fc00 : w1.frozen? ⟨w.heap.size, 0, none⟩ = false := (hg1.2.1 _).trans (by simp [go_sem])
  have c01 : w1.cell? ⟨w.heap.size, 1, none⟩ = some (.int .i64 0) := grownSome hg1 (by simp [go_sem])
  have fc01 : w1.frozen? ⟨w.heap.size, 1, none⟩ = false := (hg1.2.1 _).trans (by simp [go_sem])
  have G1 : Hid (Grown w w1) := Lib.hid (grownTrans (by go_grown) hg1)
  clear hg1
  have S0 : Hid (∀ (W' : World) (o : Nat) (v : Value), Grown w W' → Grown w (W'.setCell ⟨w.heap.size, o, none⟩ v)) := Lib.hid (fun W' o v h => h.setCell (by show w.heap.size ≤ w.heap.size; omega) v)
  generalize w.heap.size = B0 at *
  have lt : B0 < w1.heap.size := cellBlock c00
  have l1 : ¬ B0 = w1.heap.size := by omega
  have l2 : ¬ w1.heap.size = B0 := by omega
  have GX : Hid (∀ a t, Grown w (w1.alloc (.cells a t))) := Lib.hid (fun _ _ => Grown.alloc G1.out _ _)
  have SX : Hid (∀ (W' : World) (o : Nat) (v : Value), Grown w W' → Grown w (W'.setCell ⟨w1.heap.size, o, none⟩ v)) := Lib.hid (fun W' o v h => h.setCell (by show w.heap.size ≤ w1.heap.size; exact G1.out.2.2) v)
  go_wp2_with fail
  go_at_call 11
  refine (refmake_is _ _ _ HB.out _).mono ?_
  rintro _ w2 ⟨rfl, hg2⟩
  have d00 : w2.cell? ⟨B0, 0, none⟩ = some (.int .i64 0) := grownSome hg2 (grownSome (Grown.alloc (Grown.refl _) _ _) c00)
  have d01 : w2.cell? ⟨B0, 1, none⟩ = some (.int .i64 0) := grownSome hg2 (grownSome (Grown.alloc (Grown.refl _) _ _) c01)
  have fd00 : w2.frozen? ⟨B0, 0, none⟩ = false := (hg2.2.1 _).trans (by simp [go_sem, *])
  have fd01 : w2.frozen? ⟨B0, 1, none⟩ = false := (hg2.2.1 _).trans (by simp [go_sem, *])
  have x00 : w2.cell? ⟨w1.heap.size, 0, none⟩ = some (.int .i64 p) := grownSome hg2 (by simp [go_sem])
  have x01 : w2.cell? ⟨w1.heap.size, 1, none⟩ = some (.int .i64 q) := grownSome hg2 (by simp [go_sem])
  have fx00 : w2.frozen? ⟨w1.heap.size, 0, none⟩ = false := (hg2.2.1 _).trans (by simp [go_sem])
  have fx01 : w2.frozen? ⟨w1.heap.size, 1, none⟩ = false := (hg2.2.1 _).trans (by simp [go_sem])
  have G2 : Hid (Grown w w2) := Lib.hid (grownTrans (GX.out _ _) hg2)
  clear hg2 GX c00 c01 fc00 fc01 lt
  generalize w1.heap.size = X at *
  go_wp2_with fail
  exact bodyPost_ret (v := .agg #[.int .i64 1, .int .i64 2]) (by simp [results, Tryd.results43, go_sem, d00, d01]) rfl ⟨rfl, S0.out _ _ _ (S0.out _ _ _ (SX.out _ _ _ (SX.out _ _ _ G2.out)))⟩

theorem of_any (n d : Int) (w : World) : Calls Tryd.prog 43 #[.int .i64 n, .int .i64 d] w (One (ofS n d) w) := by
  unfold ofS ofA ofB
  obtain ⟨⟨p, q, e⟩, h⟩ : ∃ r, makeS (n.tmod 4096) (wrap64 (1 + wrap64 ((IntKind.u64.wrap d).tmod 64))) = r := ⟨_, rfl⟩
  obtain ⟨⟨p', q', e'⟩, h'⟩ : ∃ r, makeS (n.tmod 2147483648) (wrap64 (1 + wrap64 ((IntKind.u64.wrap d).tmod 1073741824))) = r := ⟨_, rfl⟩
  rw [h, h']
  cases t : ((IntKind.u64.wrap d).tmod 7 == 0) with
  | true =>
    rw [if_pos rfl]
    unfold ofC
    by_cases he : e' = 0
    · rw [if_pos he]
      exact of_b n d p q e p' q' e' w t (Lib.hid h) (Lib.hid h') he
    · rw [if_neg he]
      exact of_b2 n d p q e p' q' e' w t (Lib.hid h) (Lib.hid h') he
  | false =>
    rw [if_neg (by simp)]
    unfold ofC
    by_cases he : e = 0
    · rw [if_pos he]
      exact of_a n d p q e w t (Lib.hid h) he
    · rw [if_neg he]
      exact of_a2 n d p q e w t (Lib.hid h) he

end Go.Proofs.YtiibpdameldblaaDoor
