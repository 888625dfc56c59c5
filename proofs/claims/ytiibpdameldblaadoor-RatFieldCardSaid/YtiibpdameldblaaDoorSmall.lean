/- What small of the law's package returns: a fraction of small numbers. -/
import Derived.Test.YtiibpdameldblaaDoorWorks
import Derived.Test.YtiibpdameldblaaDoorOrderMath
namespace Go.Proofs.YtiibpdameldblaaDoor
open Go Go.RowKit

set_option maxHeartbeats 1000000 in
theorem small_walk (n d e x y : Int) (w : World) (hn : -128 ≤ n ∧ n ≤ 127) (E : d.tmod 30 = e) (he : 0 ≤ e ∧ e ≤ 29) (HM : Hid (makeS n (1 + e) = (x, y, 0))) :
    Calls Tryd.prog 34 #[.int .i8 n, .int .u8 d] w (One (x, y) w) := by
  go_enter Tryd.func34, Tryd.ntmps34
  go_wp2_with fail
  go_at_call 10
  refine (make_is n (1 + e) (x, y, 0) HM.out _).mono ?_
  rintro _ w1 ⟨rfl, hg1⟩
  have c00 : w1.cell? ⟨w.heap.size, 0, none⟩ = some (.int .i64 0) := grownSome hg1 (by simp [go_sem])
  have fc00 : w1.frozen? ⟨w.heap.size, 0, none⟩ = false := (hg1.2.1 _).trans (by simp [go_sem])
  have c01 : w1.cell? ⟨w.heap.size, 1, none⟩ = some (.int .i64 0) := grownSome hg1 (by simp [go_sem])
  have fc01 : w1.frozen? ⟨w.heap.size, 1, none⟩ = false := (hg1.2.1 _).trans (by simp [go_sem])
  have G1 : Hid (Grown w w1) := Lib.hid (grownTrans (by go_grown) hg1)
  clear hg1
  have S0 : Hid (∀ (W' : World) (o : Nat) (v : Value), Grown w W' → Grown w (W'.setCell ⟨w.heap.size, o, none⟩ v)) := Lib.hid (fun W' o v h => h.setCell (by show w.heap.size ≤ w.heap.size; omega) v)
  generalize w.heap.size = B0 at *
  have lt : B0 < w1.heap.size := cellBlock c00
  have l1 : ¬ B0 = w1.heap.size := by omega
  have l2 : ¬ w1.heap.size = B0 := by omega
  go_wp2_with fail
  exact bodyPost_ret (v := .agg #[.int .i64 x, .int .i64 y]) (by simp [results, Tryd.results34, go_sem, (read_past1 c00 c01 _ _ _ _).1, (read_past1 c00 c01 _ _ _ _).2]) rfl ⟨rfl, Grown.alloc (S0.out _ _ _ (S0.out _ _ _ G1.out)) _ _⟩

/-- It is some fraction of small numbers, whatever the world. -/
theorem small_ex (n d : Int) (hn : -128 ≤ n ∧ n ≤ 127) (hd : 0 ≤ d ∧ d ≤ 255) : ∃ x y : Int, Small 128 30 x y ∧ Hid (∀ w, Calls Tryd.prog 34 #[.int .i8 n, .int .u8 d] w (One (x, y) w)) := by
  have h1 := Int.tmod_lt_of_pos d (show (0 : Int) < 30 by omega)
  have h2 := Int.tmod_nonneg (30 : Int) hd.1
  obtain ⟨x, y, e, h, -⟩ := makeS_small 128 30 n (1 + d.tmod 30) (by omega) (by omega) (by omega) (by omega)
  exact ⟨x, y, h, Lib.hid (fun w => small_walk n d _ x y w hn rfl (by omega) (Lib.hid e))⟩

end Go.Proofs.YtiibpdameldblaaDoor
