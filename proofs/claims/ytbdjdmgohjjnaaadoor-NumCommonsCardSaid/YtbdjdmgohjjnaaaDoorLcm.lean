/- What Lcm of the package num returns: the least common multiple of a list. -/
import Derived.Test.YtbdjdmgohjjnaaaDoorGcd
import Derived.Deep.RegionHeld3
import Derived.Deep.RegionWith
namespace Go.Proofs.YtbdjdmgohjjnaaaDoor
open Go Go.RowKit

theorem inc_no (n : Int) (b o : Nat) (w : World) (h : n < 1) : Calls Tryd.prog 42 #[.int .i64 n, .pointer (some ⟨b, o, none⟩)] w fun e w' => e = .returned (.bool false) ∧ w = w' := by
  go_enter Tryd.func42, Tryd.ntmps42
  go_wp2
  go_ret
  exact ⟨rfl, rfl⟩

set_option maxHeartbeats 4000000 in
theorem inc_yes (n m g d : Int) (r : Int × Bool) (b o : Nat) (w : World) (hT : Tab w) (h : 1 ≤ n) (hg : 1 ≤ g) (hc : w.cell? ⟨b, o, none⟩ = some (.int .i64 m)) (hf : w.frozen? ⟨b, o, none⟩ = false)
    (G : Hid (gcdS m n = g)) (K : IntKind.i64.wrap (m.tdiv g) = d) (R : Hid (mulS d n = r)) : Calls Tryd.prog 42 #[.int .i64 n, .pointer (some ⟨b, o, none⟩)] w fun e w' => e = .returned (.bool r.2) ∧ ∃ w1, Grown w w1 ∧ w' = w1.setCell ⟨b, o, none⟩ (.int .i64 r.1) := by
  have HT := Lib.hid hT
  clear hT
  go_enter Tryd.func42, Tryd.ntmps42
  go_wp2_with fail
  go_region_with (first | (go_at_call 27; ((with_reducible refine (gcd_any m n _ (HT.out.grown (by go_grown))).mono ?_); rw [G.out]; rintro e w1 ⟨rfl, hg1⟩; have hc1 : w1.cell? ⟨b, o, none⟩ = some (.int .i64 m) := grownSome hg1 (by first | assumption | (simp [*]; done)); have hf1 : w1.frozen? ⟨b, o, none⟩ = false := (hg1.2.1 _).trans (by first | assumption | (simp [*]; done)))) | (go_at_call 16; ((with_reducible refine (mul_any d n _).mono ?_); rw [R.out]; rintro e w2 ⟨rfl, hg2⟩; have hc2 : w2.cell? ⟨b, o, none⟩ = some (.int .i64 m) := grownSome hg2 (by first | assumption | (simp [*]; done)); have hf2 : w2.frozen? ⟨b, o, none⟩ = false := (hg2.2.1 _).trans (by first | assumption | (simp [*]; done)))))
  all_goals go_wp2
  all_goals go_ret
  all_goals exact ⟨rfl, w2, grownTrans (grownTrans (by go_grown) hg1) hg2, rfl⟩

end Go.Proofs.YtbdjdmgohjjnaaaDoor
