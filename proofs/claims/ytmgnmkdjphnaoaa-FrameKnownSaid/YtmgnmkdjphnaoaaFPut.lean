/- What frame.put and frame.header return. -/
import Derived.Test.YtmgnmkdjphnaoaaFChk
namespace Go.Proofs.Ytmgnmkdjphnaoaa
open Go Go.RowKit

def putL (s : ByteArray) (k : Nat) : List Int → ByteArray
  | [] => s
  | z :: l => putL (s ++ encS z k) k l
theorem putL_snoc (k : Nat) (z : Int) : ∀ (l : List Int) (s : ByteArray), putL s k (l ++ [z]) = putL s k l ++ encS z k
  | [], _ => rfl
  | _ :: l, _ => putL_snoc k z l _
theorem putL_size (k : Nat) : ∀ (l : List Int) (s : ByteArray), (putL s k l).size = s.size + k * l.length
  | [], s => by simp [putL]
  | _ :: l, s => by rw [putL, putL_size k l, ByteArray.size_append, encS_size, List.length_cons, Nat.mul_succ]; omega

set_option maxRecDepth 100000 in
theorem fput_any (s : ByteArray) (K : Int) (k b n cap : Nat) (l : List Int) (w : World) (hk : 1 ≤ k ∧ k ≤ 7) (hK : K = k) (hn : l.length = n) (hs : s.size + k * n ≤ 1000) (hc : ∀ j, j < n → w.cell? ⟨b, j, none⟩ = some (.int .i64 (l.getD j 0))) (hl : ∀ j, j < n → 0 ≤ l.getD j 0 ∧ l.getD j 0 < 256 ^ k) :
    Calls Try.prog 49 #[.string s, .int .i64 K, .slice (some ⟨b, 0, none⟩) n cap] w (Res (.string (putL s k l)) w) := by
  subst hK
  have hn8 : n ≤ 1000 := by
    have := Nat.mul_le_mul_right n hk.1
    omega
  go_enter Try.func49, Try.ntmps49
  go_wp2
  go_loopw [0, 8, 11] (fun x _ i wr => ∃ j : Nat, j ≤ n ∧ i = .int .i64 j ∧ x = .string (putL s k (l.take j)) ∧ Hid (Keep w wr)) (fun _ _ i _ => n - (intOf i).toNat)
  case atStart => exact ⟨0, by omega, rfl, rfl, Lib.hid (Keep.refl _)⟩
  case round =>
    obtain ⟨j, hj, rfl, rfl, HK⟩ := hrel
    obtain ⟨x, hx⟩ : ∃ x, putL s k (l.take j) = x := ⟨_, rfl⟩
    rw [hx]
    have hxs : x.size ≤ 1000 := by
      rw [← hx, putL_size, List.length_take]
      have := Nat.mul_le_mul_left k (show min j l.length ≤ n by omega)
      omega
    by_cases hlt : j < n
    · have hcj : wr.cell? ⟨b, j, none⟩ = some (.int .i64 (l.getD j 0)) := HK.out.some (hc j hlt)
      have hz := hl j hlt
      have hS : putL s k (l.take (j + 1)) = x ++ encS (l.getD j 0) k := by
        rw [List.take_succ_eq_append_getElem (by omega), putL_snoc, hx]
        simp [List.getD, show j < l.length by omega]
      obtain ⟨z, hzz⟩ : ∃ z, l.getD j 0 = z := ⟨_, rfl⟩
      rw [hzz] at hcj hz hS
      have hp := put_within x z k (by omega) (by simpa using hz)
      rw [Int.toNat_natCast] at hp
      rw [← hS] at hp
      have HP := hp.2
      have HE := Lib.hid hp.1
      obtain ⟨y, hy⟩ : ∃ y, putL s k (l.take (j + 1)) = y := ⟨_, rfl⟩
      rw [hy] at HP
      have HY := Lib.hid hy
      replace HP := Lib.hid HP
      clear hy
      have HX := Lib.hid hxs
      clear hx hz hS hzz hp hxs hl hc hs
      go_wp2_with (go_at_call 61; ((with_reducible refine (wput_is x z k y 0 _ HX.out HP HE).mono ?_); rintro e' w2 ⟨rfl, k2⟩))
      go_roundw
      case rel => exact ⟨j + 1, by omega, by go_num, congrArg Value.string HY.out.symm, Lib.hid (HK.out.trans k2)⟩
      case measure => simp [intOf]; omega
    · obtain rfl : j = n := by omega
      have hall : l.take j = l := List.take_of_length_le (by omega)
      rw [hall] at hx
      clear hc hl hs hxs
      go_wp2
      go_ret
      exact ⟨by rw [hx]; rfl, HK.out⟩
theorem put1_is (s : ByteArray) (K : Int) (k b cap : Nat) (z0 : Int) (t : ByteArray) (w : World) (hk : 1 ≤ k ∧ k ≤ 7) (hK : K = k) (hs : s.size ≤ 900) (h0 : 0 ≤ z0 ∧ z0 < 256 ^ k) (c0 : w.cell? ⟨b, 0, none⟩ = some (.int .i64 z0)) (H : Hid (s ++ encS z0 k = t)) :
    Calls Try.prog 49 #[.string s, .int .i64 K, .slice (some ⟨b, 0, none⟩) 1 cap] w (Res (.string t) w) := by
  have := fput_any s K k b 1 cap [z0] w hk hK rfl (by omega) (fun j hj => by (have e : j = 0 := by omega); subst e; exact c0) (fun j hj => by (have e : j = 0 := by omega); subst e; exact h0)
  rwa [show putL s k [z0] = t from H.out] at this
theorem put2_is (s : ByteArray) (K : Int) (k b cap : Nat) (z0 z1 : Int) (t : ByteArray) (w : World) (hk : 1 ≤ k ∧ k ≤ 7) (hK : K = k) (hs : s.size ≤ 900) (h0 : 0 ≤ z0 ∧ z0 < 256 ^ k) (h1 : 0 ≤ z1 ∧ z1 < 256 ^ k) (c0 : w.cell? ⟨b, 0, none⟩ = some (.int .i64 z0)) (c1 : w.cell? ⟨b, 1, none⟩ = some (.int .i64 z1)) (H : Hid (s ++ encS z0 k ++ encS z1 k = t)) :
    Calls Try.prog 49 #[.string s, .int .i64 K, .slice (some ⟨b, 0, none⟩) 2 cap] w (Res (.string t) w) := by
  have hlt : ∀ j, j < 2 → j = 0 ∨ j = 1 := fun j hj => by omega
  have := fput_any s K k b 2 cap [z0, z1] w hk hK rfl (by omega) (fun j hj => by rcases hlt j hj with rfl | rfl <;> assumption) (fun j hj => by rcases hlt j hj with rfl | rfl <;> assumption)
  rwa [show putL s k [z0, z1] = t from H.out] at this
theorem put3_is (s : ByteArray) (K : Int) (k b cap : Nat) (z0 z1 z2 : Int) (t : ByteArray) (w : World) (hk : 1 ≤ k ∧ k ≤ 7) (hK : K = k) (hs : s.size ≤ 900) (h0 : 0 ≤ z0 ∧ z0 < 256 ^ k) (h1 : 0 ≤ z1 ∧ z1 < 256 ^ k) (h2 : 0 ≤ z2 ∧ z2 < 256 ^ k) (c0 : w.cell? ⟨b, 0, none⟩ = some (.int .i64 z0)) (c1 : w.cell? ⟨b, 1, none⟩ = some (.int .i64 z1)) (c2 : w.cell? ⟨b, 2, none⟩ = some (.int .i64 z2)) (H : Hid (s ++ encS z0 k ++ encS z1 k ++ encS z2 k = t)) :
    Calls Try.prog 49 #[.string s, .int .i64 K, .slice (some ⟨b, 0, none⟩) 3 cap] w (Res (.string t) w) := by
  have hlt : ∀ j, j < 3 → j = 0 ∨ j = 1 ∨ j = 2 := fun j hj => by omega
  have := fput_any s K k b 3 cap [z0, z1, z2] w hk hK rfl (by omega) (fun j hj => by rcases hlt j hj with rfl | rfl | rfl <;> assumption) (fun j hj => by rcases hlt j hj with rfl | rfl | rfl <;> assumption)
  rwa [show putL s k [z0, z1, z2] = t from H.out] at this
end Go.Proofs.Ytmgnmkdjphnaoaa
