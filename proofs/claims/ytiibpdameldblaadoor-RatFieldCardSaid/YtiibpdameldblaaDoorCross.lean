/- What Add, Sub, Mul and Div of the package rat return. -/
import Derived.Test.YtiibpdameldblaaDoorBoth
import Derived.Test.YtiibpdameldblaaDoorMake
namespace Go.Proofs.YtiibpdameldblaaDoor
open Go Go.RowKit

/-- Two fractions lie at p and q. -/
theorem over_no {a b c d : Int} (n m : Int) (h : okB a b c d = false) : overS (okB a b c d) n m = (0, 0, 120) := by unfold overS; rw [if_neg (by rw [h]; simp)]
theorem over_yes {a b c d : Int} (n m : Int) (h : okB a b c d = true) : overS (okB a b c d) n m = makeS n m := by unfold overS; rw [if_pos h]
theorem both_of_no {a b c d : Int} (h : okB a b c d = false) : bothS a b c d = 120 := by unfold bothS; rw [if_neg]; rw [andB]; unfold okB at h; rw [h]; simp
theorem both_of_yes {a b c d : Int} (h : okB a b c d = true) : bothS a b c d = 0 := by unfold bothS; rw [if_pos]; rw [andB]; exact h
theorem checkAll_is (a b c d s : Int) (w : World) (kk : Nat) (hT : Tab w) (hk : kk = w.heap.size) (h : bothS a b c d = s) :
    Calls Tryd.prog 50 #[.slice (some ⟨kk, 0, none⟩) 2 2] (w.alloc (.cells #[.int .i64 a, .int .i64 b, .int .i64 c, .int .i64 d] 23)) (Num s w) := h ▸ checkAll2 a b c d w kk hT hk

theorem add_cross (n1 d1 n2 d2 : Int) (N N1 N2 D : Int) (p q : Nat) (w : World) (c0 : w.cell? ⟨p, 0, none⟩ = some (.int .i64 n1)) (c1 : w.cell? ⟨p, 1, none⟩ = some (.int .i64 d1)) (c2 : w.cell? ⟨q, 0, none⟩ = some (.int .i64 n2)) (c3 : w.cell? ⟨q, 1, none⟩ = some (.int .i64 d2))
    (e1 : IntKind.i64.wrap (n1 * d2) = N1) (e2 : IntKind.i64.wrap (n2 * d1) = N2) (e3 : IntKind.i64.wrap (N1 + N2) = N) (e4 : IntKind.i64.wrap (d1 * d2) = D) :
    Calls Tryd.prog 45 #[.pointer (some ⟨p, 0, none⟩), .pointer (some ⟨q, 0, none⟩)] w fun e w' => e = .returned (.tuple #[.int .i64 N, .int .i64 D]) ∧ ∃ k, w' = w.drewN k := by
  go_enter Tryd.func45, Tryd.ntmps45
  go_wp2_with fail
  go_quiet (fail)
  go_wp2_with fail
  go_ret2
  exact ⟨rfl, _, rfl⟩

theorem sub_cross (n1 d1 n2 d2 : Int) (N N1 N2 D : Int) (p q : Nat) (w : World) (c0 : w.cell? ⟨p, 0, none⟩ = some (.int .i64 n1)) (c1 : w.cell? ⟨p, 1, none⟩ = some (.int .i64 d1)) (c2 : w.cell? ⟨q, 0, none⟩ = some (.int .i64 n2)) (c3 : w.cell? ⟨q, 1, none⟩ = some (.int .i64 d2))
    (e1 : IntKind.i64.wrap (n1 * d2) = N1) (e2 : IntKind.i64.wrap (n2 * d1) = N2) (e3 : IntKind.i64.wrap (N1 - N2) = N) (e4 : IntKind.i64.wrap (d1 * d2) = D) :
    Calls Tryd.prog 47 #[.pointer (some ⟨p, 0, none⟩), .pointer (some ⟨q, 0, none⟩)] w fun e w' => e = .returned (.tuple #[.int .i64 N, .int .i64 D]) ∧ ∃ k, w' = w.drewN k := by
  go_enter Tryd.func47, Tryd.ntmps47
  go_wp2_with fail
  go_quiet (fail)
  go_wp2_with fail
  go_ret2
  exact ⟨rfl, _, rfl⟩

theorem mul_cross (n1 d1 n2 d2 : Int) (N D : Int) (p q : Nat) (w : World) (c0 : w.cell? ⟨p, 0, none⟩ = some (.int .i64 n1)) (c1 : w.cell? ⟨p, 1, none⟩ = some (.int .i64 d1)) (c2 : w.cell? ⟨q, 0, none⟩ = some (.int .i64 n2)) (c3 : w.cell? ⟨q, 1, none⟩ = some (.int .i64 d2))
    (e1 : IntKind.i64.wrap (n1 * n2) = N) (e4 : IntKind.i64.wrap (d1 * d2) = D) :
    Calls Tryd.prog 48 #[.pointer (some ⟨p, 0, none⟩), .pointer (some ⟨q, 0, none⟩)] w fun e w' => e = .returned (.tuple #[.int .i64 N, .int .i64 D]) ∧ ∃ k, w' = w.drewN k := by
  go_enter Tryd.func48, Tryd.ntmps48
  go_wp2_with fail
  go_quiet (fail)
  go_wp2_with fail
  go_ret2
  exact ⟨rfl, _, rfl⟩

theorem div_cross (n1 d1 n2 d2 : Int) (N D : Int) (p q : Nat) (w : World) (c0 : w.cell? ⟨p, 0, none⟩ = some (.int .i64 n1)) (c1 : w.cell? ⟨p, 1, none⟩ = some (.int .i64 d1)) (c2 : w.cell? ⟨q, 0, none⟩ = some (.int .i64 n2)) (c3 : w.cell? ⟨q, 1, none⟩ = some (.int .i64 d2))
    (e1 : IntKind.i64.wrap (n1 * d2) = N) (e4 : IntKind.i64.wrap (d1 * n2) = D) :
    Calls Tryd.prog 49 #[.pointer (some ⟨p, 0, none⟩), .pointer (some ⟨q, 0, none⟩)] w fun e w' => e = .returned (.tuple #[.int .i64 N, .int .i64 D]) ∧ ∃ k, w' = w.drewN k := by
  go_enter Tryd.func49, Tryd.ntmps49
  go_wp2_with fail
  go_quiet (fail)
  go_wp2_with fail
  go_ret2
  exact ⟨rfl, _, rfl⟩

end Go.Proofs.YtiibpdameldblaaDoor
