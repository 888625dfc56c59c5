/- What within and commonDivisor of the package rat, and gcd and abs of the reference, return. -/
import Derived.Test.YtiibpdameldblaaDoorGcd
import Derived.Test.YtiibpdameldblaaDoorRMath
import Derived.Deep.QuietTactic
import Derived.BigQuiet
namespace Go.Proofs.YtiibpdameldblaaDoor
open Go Go.RowKit

theorem allW_take (L : Int) (zs : List Int) (k : Nat) (hk : k < zs.length) : allW L (zs.take (k + 1)) = (allW L (zs.take k) && inW L (zs.getD k 0)) := by
  unfold allW
  rw [List.take_succ_eq_append_getElem hk, List.all_append]
  simp [List.getD, List.getElem?_eq_getElem hk]
theorem allW_false (L : Int) (zs : List Int) (k : Nat) (hk : k < zs.length) (h : inW L (zs.getD k 0) = false) : allW L zs = false := by
  unfold allW
  rw [List.all_eq_false]
  exact ⟨zs.getD k 0, by simp [List.getD, List.getElem?_eq_getElem hk], by rw [h]; simp⟩

theorem within_any (L : Int) (b off n cap : Nat) (zs : List Int) (w : World) (hL : 0 ≤ L ∧ L ≤ 4611686018427387904) (hl : zs.length = n) (hm : n ≤ 9223372036854775807)
    (hc : ∀ j, j < n → w.cell? ⟨b, off + j, none⟩ = some (.int .i64 (zs.getD j 0))) :
    Calls Tryd.prog 37 #[.int .i64 L, .slice (some ⟨b, off, none⟩) n cap] w fun e w' => e = .returned (.bool (allW L zs)) ∧ w' = w := by
  go_enter Tryd.func37, Tryd.ntmps37
  go_wp2
  go_loop [9] (fun i => ∃ k : Nat, k ≤ n ∧ i = .int .i64 k ∧ allW L (zs.take k) = true) (fun i => n - (intOf i).toNat)
  case atStart => exact ⟨0, Nat.zero_le _, rfl, rfl⟩
  case round =>
    obtain ⟨k, hk, rfl, hall⟩ := hrel
    have HA := Lib.hid hall
    clear hall
    by_cases hlt : k < n
    · have hcell := hc k hlt
      have HC := Lib.hid hc
      clear hc
      have hkl : k < zs.length := by omega
      generalize hz : zs.getD k 0 = z at hcell
      have HZ := Lib.hid hz
      clear hz
      by_cases h1 : z < -L
      · go_wp2
        go_ret
        exact ⟨by rw [allW_false L zs k hkl (by rw [HZ.out, inW_no]; omega)]; rfl, rfl⟩
      · by_cases h2 : L < z
        · go_wp2
          go_ret
          exact ⟨by rw [allW_false L zs k hkl (by rw [HZ.out, inW_no]; omega)]; rfl, rfl⟩
        · go_wp2
          go_round
          case rel => exact ⟨k + 1, by omega, by go_num, by rw [allW_take L zs k hkl, HA.out, HZ.out]; simp; rw [inW_iff]; omega⟩
          case measure => simp [intOf]; omega
    · obtain rfl : k = n := by omega
      have HC := Lib.hid hc
      clear hc
      go_wp2
      go_ret
      exact ⟨by have := HA.out; rw [← hl, List.take_length] at this; rw [this]; rfl, rfl⟩

/-- within of two numbers, the list laid by the call itself. -/
theorem within2 (L a1 a2 : Int) (w : World) (k : Nat) (hL : 0 ≤ L ∧ L ≤ 4611686018427387904) (b : Bool) (hb : (inW L a1 && inW L a2) = b) (hk : k = w.heap.size) :
    Calls Tryd.prog 37 #[.int .i64 L, .slice (some ⟨k, 0, none⟩) 2 2] (w.alloc (.cells #[.int .i64 a1, .int .i64 a2] 3)) fun e w' => e = .returned (.bool b) ∧ w' = w.alloc (.cells #[.int .i64 a1, .int .i64 a2] 3) := by
  have e : allW L [a1, a2] = b := by simp [allW, ← hb]
  subst e hk
  refine within_any L _ 0 2 2 [a1, a2] _ hL rfl (by omega) ?_
  intro j hj
  have := cellsNew w ([a1, a2].map (Value.int .i64)).toArray 3 j (by simpa using hj)
  rw [show (#[Value.int .i64 a1, Value.int .i64 a2] : Array Value) = ([a1, a2].map (Value.int .i64)).toArray from rfl, this]
  rcases j with _ | _ | j
  · rfl
  · rfl
  · omega

/-- At the head of Euclid's loop. -/
def Euclid (G : Nat) (u v : Value) : Prop :=
  ∃ x y : Int, u = .int .i64 x ∧ v = .int .i64 y ∧ 0 ≤ x ∧ x ≤ 4611686018427387904 ∧ 0 ≤ y ∧ y ≤ 4611686018427387904 ∧ x.toNat.gcd y.toNat = G

theorem euclid_int {x y : Int} (h0 : 0 ≤ x) (h1 : 0 < y) : y.toNat.gcd (x % y).toNat = x.toNat.gcd y.toNat := by
  rw [Int.toNat_emod h0 (by omega), euclid]

theorem rcd_any (a b g : Int) (w : World) (ha : 0 ≤ a ∧ a ≤ 4611686018427387904) (hb : 0 ≤ b ∧ b ≤ 4611686018427387904) (hg : Hid ((a.toNat.gcd b.toNat : Int) = g)) :
    Calls Tryd.prog 38 #[.int .i64 a, .int .i64 b] w fun e w' => e = .returned (.int .i64 g) ∧ ∃ n, w' = w.drewN n := by
  go_enter Tryd.func38, Tryd.ntmps38
  go_wp2
  go_loopw [0, 1] (fun u v wr => Euclid (a.toNat.gcd b.toNat) u v ∧ ∃ n, wr = w.drewN n) (fun u v _ => (intOf v).toNat)
  case atStart => exact ⟨⟨a, b, rfl, rfl, by omega, by omega, by omega, by omega, rfl⟩, 0, rfl⟩
  case round =>
    obtain ⟨⟨x, y, rfl, rfl, x1, x2, y1, y2, hG⟩, nn, rfl⟩ := hrel
    have HG := Lib.hid hG
    clear hG
    by_cases h0 : y = 0
    · subst h0
      go_wp2
      go_ret
      refine ⟨?_, nn, rfl⟩
      have h := HG.out
      rw [show (0 : Int).toNat = 0 from rfl, Nat.gcd_zero_right] at h
      rw [← hg.out, ← h, Int.toNat_of_nonneg x1]; rfl
    · have h1 : (y == 0) = false := by simp [h0]
      have hm : x.tmod y = x % y := Int.tmod_eq_emod_of_nonneg x1
      have m1 := Int.emod_nonneg x h0
      have m2 := Int.emod_lt_of_pos x (show 0 < y by omega)
      have E := Lib.hid (euclid_int x1 (show 0 < y by omega))
      generalize x % y = z at *
      go_wp2_with fail
      go_quiet (fail)
      go_wp2_with fail
      go_roundw
      case rel => exact ⟨⟨y, z, rfl, rfl, by omega, by omega, by omega, by omega, E.out.trans HG.out⟩, _, World.drewN_drewN _ _ _⟩
      case measure => simp [intOf]; omega

theorem refgcd_any (a b g : Int) (w : World) (ha : 0 ≤ a ∧ a ≤ 4611686018427387904) (hb : 0 ≤ b ∧ b ≤ 4611686018427387904) (hg : Hid ((a.toNat.gcd b.toNat : Int) = g)) :
    Calls Tryd.prog 39 #[.int .i64 a, .int .i64 b] w fun e w' => e = .returned (.int .i64 g) ∧ ∃ n, w' = w.drewN n := by
  go_enter Tryd.func39, Tryd.ntmps39
  go_wp2
  go_loopw [0, 1] (fun u v wr => Euclid (a.toNat.gcd b.toNat) u v ∧ ∃ n, wr = w.drewN n) (fun u v _ => (intOf v).toNat)
  case atStart => exact ⟨⟨a, b, rfl, rfl, by omega, by omega, by omega, by omega, rfl⟩, 0, rfl⟩
  case round =>
    obtain ⟨⟨x, y, rfl, rfl, x1, x2, y1, y2, hG⟩, nn, rfl⟩ := hrel
    have HG := Lib.hid hG
    clear hG
    by_cases h0 : y = 0
    · subst h0
      go_wp2
      go_ret
      refine ⟨?_, nn, rfl⟩
      have h := HG.out
      rw [show (0 : Int).toNat = 0 from rfl, Nat.gcd_zero_right] at h
      rw [← hg.out, ← h, Int.toNat_of_nonneg x1]; rfl
    · have h1 : 0 < y := by omega
      have hm : x.tmod y = x % y := Int.tmod_eq_emod_of_nonneg x1
      have m1 := Int.emod_nonneg x h0
      clear h0
      have m2 := Int.emod_lt_of_pos x (show 0 < y by omega)
      have E := Lib.hid (euclid_int x1 (show 0 < y by omega))
      generalize x % y = z at *
      go_wp2_with fail
      go_quiet (fail)
      go_wp2_with fail
      go_roundw
      case rel => exact ⟨⟨y, z, rfl, rfl, by omega, by omega, by omega, by omega, E.out.trans HG.out⟩, _, World.drewN_drewN _ _ _⟩
      case measure => simp [intOf]; omega

theorem refabs_any (n : Int) (w : World) (h : -9223372036854775807 ≤ n ∧ n ≤ 9223372036854775807) (A : Int) (hA : Hid ((n.natAbs : Int) = A)) :
    Calls Tryd.prog 40 #[.int .i64 n] w fun e w' => e = .returned (.int .i64 A) ∧ w' = w := by
  go_enter Tryd.func40, Tryd.ntmps40
  go_wp2
  go_ret
  refine ⟨?_, rfl⟩
  rw [← hA.out]
  show Ending.returned (.int .i64 (max n (-n))) = _
  rw [show max n (-n) = (n.natAbs : Int) by omega]

end Go.Proofs.YtiibpdameldblaaDoor
