/- What the reader's methods do. -/
import Derived.Test.YtmgnmkdjphnaoaaFEnc
import Derived.RegionCalls
import Derived.WalkSmall
namespace Go.Proofs.Ytmgnmkdjphnaoaa
open Go Go.RowKit

set_option maxRecDepth 100000 in
theorem must_ok (w : World) : Calls Try.prog 53 #[.int .i64 0] w fun e w' => e = .returned (.tuple #[]) ∧ w' = w := by
  go_enter Try.func53, Try.ntmps53
  go_wp2
  first | go_end0 | refine bodyPost_ret (results_none rfl _ _ _) rfl ?_
  exact ⟨rfl, rfl⟩
set_option maxRecDepth 100000 in
theorem must_no (c : Int) (w : World) (h : c ≠ 0) : Calls Try.prog 53 #[.int .i64 c] w fun e w' => e = .panicked [{ v := .iface 32 (.int .i64 c), recovered := false }] ∧ w' = w := by
  have hc : (c == 0) = false := by simp [h]
  have hc2 : (c != 0) = true := by simp [h]
  go_enter Try.func53, Try.ntmps53
  go_wp2
  first | exact ⟨rfl, rfl⟩ | exact ⟨rfl, rfl, rfl⟩
set_option maxRecDepth 100000 in
theorem pass_is (b : Nat) (a k n : Int) (w : World) (c0 : w.cell? ⟨b, 0, none⟩ = some (.int .i64 a)) (f0 : w.frozen? ⟨b, 0, none⟩ = false) (hn : a + k = n) (h : I64 n) : Calls Try.prog 74 #[.pointer (some ⟨b, 0, none⟩), .int .i64 k] w fun e w' => e = .returned (.int .i64 a) ∧ w' = w.setCell ⟨b, 0, none⟩ (.int .i64 n) := by
  unfold I64 at h
  have hw : wrap64 (a + k) = n := by rw [hn]; unfold wrap64; omega
  clear hn h
  go_enter Try.func74, Try.ntmps74
  go_wp2
  go_ret
  exact ⟨rfl, rfl⟩

set_option maxRecDepth 100000 in
set_option maxHeartbeats 1000000 in
theorem number_ok (b : Nat) (a k n : Int) (v : Int) (s : ByteArray) (w : World) (hs : s.size ≤ maxLen) (ha : I64 a) (hk : I64 k) (c0 : w.cell? ⟨b, 0, none⟩ = some (.int .i64 a)) (c1 : w.cell? ⟨b, 1, none⟩ = some (.string s)) (f0 : w.frozen? ⟨b, 0, none⟩ = false) (hn : a + k = n) (h : I64 n) (HV : Hid (getV s a k = v)) (HE : Hid (getE s a k = 0)) :
    Calls Try.prog 64 #[.pointer (some ⟨b, 0, none⟩), .int .i64 k] w fun e w' => e = .returned (.int .i64 v) ∧ Keep (w.setCell ⟨b, 0, none⟩ (.int .i64 n)) w' := by
  go_enter Try.func64, Try.ntmps64
  go_upto_region 1 with fail
  have d0 : w.drew.cell? ⟨b, 0, none⟩ = some (.int .i64 a) := c0
  have d1 : w.drew.cell? ⟨b, 1, none⟩ = some (.string s) := c1
  have g0 : w.drew.frozen? ⟨b, 0, none⟩ = false := f0
  go_region_with (first | (go_at_call 74; ((with_reducible refine (pass_is b a k n _ d0 g0 hn h).mono ?_); rintro e' w1 ⟨rfl, rfl⟩)) | (go_at_call 73; ((with_reducible refine (get_is s a k v 0 _ hs ha hk HV HE).mono ?_); rintro e' w2 ⟨rfl, k2⟩)))
  all_goals
    go_wp2_with (go_at_call 53; ((with_reducible refine (must_ok _).mono ?_); rintro e' w3 ⟨rfl, hw3⟩; subst hw3))
    go_ret
    exact ⟨rfl, (Keep.refl _).drew.trans k2⟩
set_option maxRecDepth 100000 in
set_option maxHeartbeats 1000000 in
theorem number_no (b : Nat) (a k n : Int) (v : Int) (x : Int) (s : ByteArray) (w : World) (hs : s.size ≤ maxLen) (ha : I64 a) (hk : I64 k) (c0 : w.cell? ⟨b, 0, none⟩ = some (.int .i64 a)) (c1 : w.cell? ⟨b, 1, none⟩ = some (.string s)) (f0 : w.frozen? ⟨b, 0, none⟩ = false) (hn : a + k = n) (h : I64 n) (HV : Hid (getV s a k = v)) (HE : Hid (getE s a k = x)) (hx : x ≠ 0) :
    Calls Try.prog 64 #[.pointer (some ⟨b, 0, none⟩), .int .i64 k] w fun e w' => e = .panicked [{ v := .iface 32 (.int .i64 x), recovered := false }] ∧ Keep (w.setCell ⟨b, 0, none⟩ (.int .i64 n)) w' := by
  go_enter Try.func64, Try.ntmps64
  go_upto_region 1 with fail
  have d0 : w.drew.cell? ⟨b, 0, none⟩ = some (.int .i64 a) := c0
  have d1 : w.drew.cell? ⟨b, 1, none⟩ = some (.string s) := c1
  have g0 : w.drew.frozen? ⟨b, 0, none⟩ = false := f0
  go_region_with (first | (go_at_call 74; ((with_reducible refine (pass_is b a k n _ d0 g0 hn h).mono ?_); rintro e' w1 ⟨rfl, rfl⟩)) | (go_at_call 73; ((with_reducible refine (get_is s a k v x _ hs ha hk HV HE).mono ?_); rintro e' w2 ⟨rfl, k2⟩)))
  all_goals
    go_wp2_with (go_at_call 53; ((with_reducible refine (must_no x _ hx).mono ?_); rintro e' w3 ⟨rfl, hw3⟩; subst hw3))
    exact ⟨rfl, rfl, (Keep.refl _).drew.trans k2⟩
set_option maxRecDepth 100000 in
set_option maxHeartbeats 1000000 in
theorem part_ok (b : Nat) (a k n : Int) (v : ByteArray) (s : ByteArray) (w : World) (hs : s.size ≤ maxLen) (ha : I64 a) (hk : I64 k) (c0 : w.cell? ⟨b, 0, none⟩ = some (.int .i64 a)) (c1 : w.cell? ⟨b, 1, none⟩ = some (.string s)) (f0 : w.frozen? ⟨b, 0, none⟩ = false) (hn : a + k = n) (h : I64 n) (HV : Hid (fieldS s a k = v)) (HE : Hid (fieldE s a k = 0)) :
    Calls Try.prog 65 #[.pointer (some ⟨b, 0, none⟩), .int .i64 k] w fun e w' => e = .returned (.string v) ∧ Keep (w.setCell ⟨b, 0, none⟩ (.int .i64 n)) w' := by
  go_enter Try.func65, Try.ntmps65
  go_upto_region 1 with fail
  have d0 : w.drew.cell? ⟨b, 0, none⟩ = some (.int .i64 a) := c0
  have d1 : w.drew.cell? ⟨b, 1, none⟩ = some (.string s) := c1
  have g0 : w.drew.frozen? ⟨b, 0, none⟩ = false := f0
  go_region_with (first | (go_at_call 74; ((with_reducible refine (pass_is b a k n _ d0 g0 hn h).mono ?_); rintro e' w1 ⟨rfl, rfl⟩)) | (go_at_call 60; ((with_reducible refine (field_is s a k v 0 _ hs ha hk HV HE).mono ?_); rintro e' w2 ⟨rfl, k2⟩)))
  all_goals
    go_wp2_with (go_at_call 53; ((with_reducible refine (must_ok _).mono ?_); rintro e' w3 ⟨rfl, hw3⟩; subst hw3))
    go_ret
    exact ⟨rfl, (Keep.refl _).drew.trans k2⟩
set_option maxRecDepth 100000 in
set_option maxHeartbeats 1000000 in
theorem part_no (b : Nat) (a k n : Int) (v : ByteArray) (x : Int) (s : ByteArray) (w : World) (hs : s.size ≤ maxLen) (ha : I64 a) (hk : I64 k) (c0 : w.cell? ⟨b, 0, none⟩ = some (.int .i64 a)) (c1 : w.cell? ⟨b, 1, none⟩ = some (.string s)) (f0 : w.frozen? ⟨b, 0, none⟩ = false) (hn : a + k = n) (h : I64 n) (HV : Hid (fieldS s a k = v)) (HE : Hid (fieldE s a k = x)) (hx : x ≠ 0) :
    Calls Try.prog 65 #[.pointer (some ⟨b, 0, none⟩), .int .i64 k] w fun e w' => e = .panicked [{ v := .iface 32 (.int .i64 x), recovered := false }] ∧ Keep (w.setCell ⟨b, 0, none⟩ (.int .i64 n)) w' := by
  go_enter Try.func65, Try.ntmps65
  go_upto_region 1 with fail
  have d0 : w.drew.cell? ⟨b, 0, none⟩ = some (.int .i64 a) := c0
  have d1 : w.drew.cell? ⟨b, 1, none⟩ = some (.string s) := c1
  have g0 : w.drew.frozen? ⟨b, 0, none⟩ = false := f0
  go_region_with (first | (go_at_call 74; ((with_reducible refine (pass_is b a k n _ d0 g0 hn h).mono ?_); rintro e' w1 ⟨rfl, rfl⟩)) | (go_at_call 60; ((with_reducible refine (field_is s a k v x _ hs ha hk HV HE).mono ?_); rintro e' w2 ⟨rfl, k2⟩)))
  all_goals
    go_wp2_with (go_at_call 53; ((with_reducible refine (must_no x _ hx).mono ?_); rintro e' w3 ⟨rfl, hw3⟩; subst hw3))
    exact ⟨rfl, rfl, (Keep.refl _).drew.trans k2⟩
end Go.Proofs.Ytmgnmkdjphnaoaa
