/- What the register's take does. -/
import Derived.Test.YtgejpbgpgklimaaCTable
import Derived.BigRegion
import Derived.BigQuiet
import Derived.RegionTactic
import Derived.StillTailTactics
namespace Go.Proofs.Ytgejpbgpgklimaa
open Go Go.RowKit

def Took (b : Nat) (r : Int) (w : World) (e : Ending) (w' : World) : Prop := e = .returned (.tuple #[]) ∧ w' = (w.setCell ⟨b, 0, none⟩ (.int .u32 r)).drew
set_option maxRecDepth 100000 in
set_option maxHeartbeats 1000000 in
theorem take_val (b K : Nat) (C z c8 s8 T r : Int) (w : World) (hK : K < 256)
    (h0 : w.cell? ⟨b, 0, none⟩ = some (.int .u32 C)) (hT : w.cell? ⟨b, 1 + K, none⟩ = some (.int .u32 T)) (hf : w.frozen? ⟨b, 0, none⟩ = false)
    (e8 : IntKind.u8.wrap C = c8) (ek : bits .xor .u8 c8 z = (K : Int)) (es : C / 256 = s8) (er : bits .xor .u32 s8 T = r) :
    Calls Try.prog 78 #[.pointer (some ⟨b, 0, none⟩), .int .u8 z] w (Took b r w) := by
  go_enter Try.func78, Try.ntmps78
  go_region
  exact bodyPost_end (results_none rfl _ _ _) rfl ⟨rfl, rfl⟩
/-- A register: its content is c, its steps are the table's. -/
def regRow (c : BitVec 32) : Array Value := #[Value.int .u32 (cv c)] ++ tabA 256
theorem regRow_size (c) : (regRow c).size = 257 := by simp [regRow, tabA_size]
theorem regRow_zero (c) : (regRow c)[0]? = some (.int .u32 (cv c)) := by
  unfold regRow
  rw [Array.getElem?_append_left (by simp)]
  rfl
theorem regRow_step (c) (j : Nat) (h : j < 256) : (regRow c)[1 + j]? = some (.int .u32 (cv (tabV j))) := by
  unfold regRow
  rw [Array.getElem?_append_right (by simp)]
  have := tabA_get 256 j h
  simp only [h, if_true] at this
  rw [← this]
  rw [show 1 + j - (#[Value.int .u32 (cv c)] : Array Value).size = j by simp]
theorem set_head (A : Array Value) (x y : Value) : (#[x] ++ A).setIfInBounds 0 y = #[y] ++ A := by
  apply Array.ext'
  rw [Array.toList_setIfInBounds]
  simp
theorem regRow_set (c d) : (regRow c).setIfInBounds 0 (.int .u32 (cv d)) = regRow d := set_head (tabA 256) (.int .u32 (cv c)) (.int .u32 (cv d))
theorem cv_low (c : BitVec 32) : IntKind.u8.wrap (cv c) = ((c.toNat % 256 : Nat) : Int) := by
  rw [IntKind.wrap_u8']; unfold cv; simp
theorem take_any (b : Nat) (c : BitVec 32) (o : UInt8) (w : World) (t : TypeId) (hg : w.heap[b]? = some (.cells (regRow c) t (0, 0))) :
    Calls Try.prog 78 #[.pointer (some ⟨b, 0, none⟩), .int .u8 (o.toNat : Int)] w fun e w' => e = .returned (.tuple #[]) ∧ Keep w w ∧ w' = (w.setCell ⟨b, 0, none⟩ (.int .u32 (cv (oct c o)))).drew := by
  have ho := o.toNat_lt
  have h := take_val b (tabN c o) (cv c) (o.toNat : Int) _ _ (cv (tabV (tabN c o))) _ w (tabN_lt c o) ((cell_of_row _ _ _ _ _ _ hg).trans (regRow_zero c)) ((cell_of_row _ _ _ _ _ _ hg).trans (regRow_step c _ (tabN_lt c o))) (frozen_of_row _ _ _ _ _ hg) rfl (by rw [cv_low, u8_xor_nat _ _ (Nat.mod_lt _ (by omega)) ho]; rfl) rfl rfl
  have e : bits .xor .u32 (cv c / 256) (cv (tabV (tabN c o))) = cv (oct c o) := by
    have := cv_shr c 8
    rw [show (2 : Int) ^ 8 = 256 by decide] at this
    rw [this, cv_xor, oct_tab]
  rw [e] at h
  exact h.mono fun _ _ ⟨h1, h2⟩ => ⟨h1, Keep.refl _, h2⟩
end Go.Proofs.Ytgejpbgpgklimaa
