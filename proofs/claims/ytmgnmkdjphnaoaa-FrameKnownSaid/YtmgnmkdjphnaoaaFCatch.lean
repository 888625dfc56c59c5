/- The deferred closure of frame.Decode, of a frame that panics and of one that returns. -/
import Derived.Test.YtmgnmkdjphnaoaaFMem
import Derived.Tactics2
import Derived.Defers
import Derived.Recover
import Derived.Laws.Pointers
namespace Go.Proofs.Ytmgnmkdjphnaoaa
open Go Go.RowKit

def zeroRow : Array Value := #[.int .i64 0, .int .i64 0, .bool false, .int .i64 0, .int .i64 0, .bool false, .int .i64 0, .int .i64 0, .string ⟨#[]⟩]
theorem catch_panics (b c : Nat) (x : Int) (u : TypeId) (pv : Value) (older : List PanicEntry) (w : World) (hb : FrAt w b 0 0 false 0 0 false 0 0 ⟨#[]⟩) (hc : w.cell? ⟨c, 0, none⟩ = some (.int .i64 x)) (hz : w.frozen? ⟨c, 0, none⟩ = false) (hne : b ≠ c) :
    CallsD Try.prog 37 #[.pointer (some ⟨b, 0, none⟩), .pointer (some ⟨c, 0, none⟩)] (.panicking ({ v := .iface u pv, recovered := false } :: older)) w fun e u' w' =>
      e = .returned (.tuple #[]) ∧ u' = .panicking ({ v := .iface u pv, recovered := true } :: older) ∧ w' = (w.setRow b zeroRow).setCell ⟨c, 0, none⟩ (.int .i64 5) := by
  refine callsD_of_wpS Try.func37 rfl fun c₀ cs hu => ?_
  apply wpS_seq
  apply wpS_region
  simp [wpOpsS, go_sem, recoverD, hu, Try.ntmps37, Exit.thenS]
  refine wpS_cond (t := true) (by simp [Act.eval, Array.replicate]) ?_
  simp only [if_true]
  refine wpS_of_wp ?_
  have hcr : (w.setRow b zeroRow).cell? ⟨c, 0, none⟩ = some (.int .i64 x) := by
    rw [← hc]; exact World.cell?_of_block (setRow_other w b c _ hne.symm)
  have hzr : (w.setRow b zeroRow).frozen? ⟨c, 0, none⟩ = false := by
    rw [← hz]; exact World.frozen?_of_block (setRow_other w b c _ hne.symm)
  go_wp2_with (refine wpList_store_row rfl 23 _ _ rfl b rfl 23 _ zeroRow rfl hb rfl (fr_one _ _ _ _ _ _ _ _ _) info_frame ?_)
  simp [bodyPostS, results, Try.results37]

theorem catch_idle (b c : Nat) (w : World) :
    CallsD Try.prog 37 #[.pointer (some ⟨b, 0, none⟩), .pointer (some ⟨c, 0, none⟩)] .returning w fun e u' w' => e = .returned (.tuple #[]) ∧ u' = .returning ∧ w' = w := by
  refine callsD_of_wpS Try.func37 rfl fun c₀ cs hu => ?_
  apply wpS_seq
  apply wpS_region
  simp [wpOpsS, go_sem, recoverD, hu, Try.ntmps37, Exit.thenS]
  refine wpS_cond (t := false) (by simp [Act.eval, Array.replicate]) ?_
  simp only [Bool.false_eq_true, if_false]
  refine wpS_of_wp (wp_skip ?_)
  cases c₀
  simp_all [bodyPostS, results, Try.results37]
end Go.Proofs.Ytmgnmkdjphnaoaa
