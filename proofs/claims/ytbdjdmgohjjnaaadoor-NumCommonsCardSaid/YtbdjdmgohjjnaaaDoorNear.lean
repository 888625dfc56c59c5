/- What near of the law's package returns: some int, and the world is as it was. -/
import Derived.Test.YtbdjdmgohjjnaaaDoorRange
namespace Go.Proofs.YtbdjdmgohjjnaaaDoor
open Go Go.RowKit

/-- An int of 64 bits. -/
def Fits (n : Int) : Prop := -9223372036854775808 ≤ n ∧ n ≤ 9223372036854775807
theorem fits_wrap (e : Int) : Fits (wrap64 e) := by unfold Fits wrap64; omega
theorem fits_wf {n : Int} (h : (Lit.int .i64 n).wf = true) : Fits n := by
  simp [Lit.wf, IntKind.min, IntKind.max, IntKind.signed, IntKind.bits] at h
  exact ⟨by omega, by omega⟩
theorem byte_wf {n : Int} (h : (Lit.int .u8 n).wf = true) : 0 ≤ n ∧ n ≤ 255 := by
  simp [Lit.wf, IntKind.min, IntKind.max, IntKind.signed, IntKind.bits] at h
  exact ⟨by omega, by omega⟩

/-- near at these arguments is r, whatever the world. -/
def NearIs (n h r : Int) : Prop := ∀ w, Calls Tryd.prog 11 #[.int .i64 n, .int .u8 h] w fun e w' => e = .returned (.int .i64 r) ∧ w' = w

theorem near_ex (n h : Int) (hn : Fits n) (h0 : 0 ≤ h ∧ h ≤ 255) : ∃ r, Fits r ∧ NearIs n h r := by
  have hm : h % 6 = 0 ∨ h % 6 = 1 ∨ h % 6 = 2 ∨ h % 6 = 3 ∨ h % 6 = 4 ∨ h % 6 = 5 := by omega
  rcases hm with hm | hm | hm | hm | hm | hm
  · refine ⟨n, hn, fun w => ?_⟩
    clear hn
    have t0 : (h % 6 == 0) = true := by rw [hm]; rfl
    clear hm
    go_enter Tryd.func11, Tryd.ntmps11
    go_wp2
    go_ret
    exact ⟨rfl, rfl⟩
  · refine ⟨wrap64 (wrap64 ((IntKind.u64.wrap n).tmod 9) - 4), fits_wrap _, fun w => ?_⟩
    clear hn
    have t0 : (h % 6 == 0) = false := by rw [hm]; rfl
    have t1 : (h % 6 == 1) = true := by rw [hm]; rfl
    clear hm
    go_enter Tryd.func11, Tryd.ntmps11
    go_wp2
    go_ret
    exact ⟨rfl, rfl⟩
  · refine ⟨wrap64 (1125899906842624 + wrap64 (wrap64 ((IntKind.u64.wrap n).tmod 9) - 4)), fits_wrap _, fun w => ?_⟩
    clear hn
    have t0 : (h % 6 == 0) = false := by rw [hm]; rfl
    have t1 : (h % 6 == 1) = false := by rw [hm]; rfl
    have t2 : (h % 6 == 2) = true := by rw [hm]; rfl
    clear hm
    go_enter Tryd.func11, Tryd.ntmps11
    go_wp2
    go_ret
    exact ⟨rfl, rfl⟩
  · refine ⟨wrap64 (-1125899906842624 + wrap64 (wrap64 ((IntKind.u64.wrap n).tmod 9) - 4)), fits_wrap _, fun w => ?_⟩
    clear hn
    have t0 : (h % 6 == 0) = false := by rw [hm]; rfl
    have t1 : (h % 6 == 1) = false := by rw [hm]; rfl
    have t2 : (h % 6 == 2) = false := by rw [hm]; rfl
    have t3 : (h % 6 == 3) = true := by rw [hm]; rfl
    clear hm
    go_enter Tryd.func11, Tryd.ntmps11
    go_wp2
    go_ret
    exact ⟨rfl, rfl⟩
  · refine ⟨wrap64 (33554432 + wrap64 (wrap64 ((IntKind.u64.wrap n).tmod 9) - 4)), fits_wrap _, fun w => ?_⟩
    clear hn
    have t0 : (h % 6 == 0) = false := by rw [hm]; rfl
    have t1 : (h % 6 == 1) = false := by rw [hm]; rfl
    have t2 : (h % 6 == 2) = false := by rw [hm]; rfl
    have t3 : (h % 6 == 3) = false := by rw [hm]; rfl
    have t4 : (h % 6 == 4) = true := by rw [hm]; rfl
    clear hm
    go_enter Tryd.func11, Tryd.ntmps11
    go_wp2
    go_ret
    exact ⟨rfl, rfl⟩
  · refine ⟨wrap64 ((IntKind.u64.wrap n).tmod 2251799813685248), fits_wrap _, fun w => ?_⟩
    clear hn
    have t0 : (h % 6 == 0) = false := by rw [hm]; rfl
    have t1 : (h % 6 == 1) = false := by rw [hm]; rfl
    have t2 : (h % 6 == 2) = false := by rw [hm]; rfl
    have t3 : (h % 6 == 3) = false := by rw [hm]; rfl
    have t4 : (h % 6 == 4) = false := by rw [hm]; rfl
    clear hm
    go_enter Tryd.func11, Tryd.ntmps11
    go_wp2
    go_ret
    exact ⟨rfl, rfl⟩

end Go.Proofs.YtbdjdmgohjjnaaaDoor
