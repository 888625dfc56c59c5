/- What inRange, magnitude, FloorDiv and CeilDiv of the package num return. -/
import Derived.Test.YtiibpdameldblaaDoorBase
import Derived.Test.YtiibpdameldblaaDoorMath
import Derived.WalkKit
import Derived.ProofKit
import Derived.Handy
import Derived.WalkSpells
import Derived.Lib.Hide
namespace Go.Proofs.YtiibpdameldblaaDoor
open Go Go.RowKit

theorem allIn_take (zs : List Int) (k : Nat) (hk : k < zs.length) : allIn (zs.take (k + 1)) = (allIn (zs.take k) && inB (zs.getD k 0)) := by
  unfold allIn
  rw [List.take_succ_eq_append_getElem hk, List.all_append]
  simp [List.getD, List.getElem?_eq_getElem hk]

theorem allIn_false (zs : List Int) (k : Nat) (hk : k < zs.length) (h : inB (zs.getD k 0) = false) : allIn zs = false := by
  unfold allIn
  rw [List.all_eq_false]
  exact ⟨zs.getD k 0, by simp [List.getD, List.getElem?_eq_getElem hk], by rw [h]; simp⟩

theorem inRange_any (b off n cap : Nat) (zs : List Int) (w : World) (hl : zs.length = n) (hm : n ≤ 9223372036854775807)
    (hc : ∀ j, j < n → w.cell? ⟨b, off + j, none⟩ = some (.int .i64 (zs.getD j 0))) :
    Calls Tryd.prog 55 #[.slice (some ⟨b, off, none⟩) n cap] w fun e w' => e = .returned (.bool (allIn zs)) ∧ w' = w := by
  go_enter Tryd.func55, Tryd.ntmps55
  go_wp2
  go_loop [7] (fun i => ∃ k : Nat, k ≤ n ∧ i = .int .i64 k ∧ allIn (zs.take k) = true) (fun i => n - (intOf i).toNat)
  case atStart => exact ⟨0, Nat.zero_le _, rfl, rfl⟩
  case round =>
    obtain ⟨k, hk, rfl, hall⟩ := hrel
    have HA := Lib.hid hall
    clear hall
    by_cases hlt : k < n
    · have hcell := hc k hlt
      have HC := Lib.hid hc
      clear hc
      have hkl : k < zs.length := by omega
      generalize hz : zs.getD k 0 = z at hcell
      have HZ := Lib.hid hz
      clear hz
      by_cases h1 : z < -1125899906842624
      · go_wp2
        go_ret
        exact ⟨by rw [allIn_false zs k hkl (by rw [HZ.out, inB_no]; omega)]; rfl, rfl⟩
      · by_cases h2 : 1125899906842624 < z
        · go_wp2
          go_ret
          exact ⟨by rw [allIn_false zs k hkl (by rw [HZ.out, inB_no]; omega)]; rfl, rfl⟩
        · go_wp2
          go_round
          case rel => exact ⟨k + 1, by omega, by go_num, by rw [allIn_take zs k hkl, HA.out, HZ.out]; simp; rw [inB_iff]; omega⟩
          case measure => simp [intOf]; omega
    · obtain rfl : k = n := by omega
      have HC := Lib.hid hc
      clear hc
      go_wp2
      go_ret
      exact ⟨by have := HA.out; rw [← hl, List.take_length] at this; rw [this]; rfl, rfl⟩

theorem cellsNew (w : World) (c : Array Value) (t : TypeId) (j : Nat) (hj : j < c.size) : (w.alloc (.cells c t)).cell? ⟨w.heap.size, 0 + j, none⟩ = some c[j] := by
  have e1 : (w.alloc (.cells c t)).heap[w.heap.size]? = some (.cells c t) := (MapKept.heap_alloc w _).1
  unfold World.cell?
  rw [e1]
  simp [hj]

/-- The list of a call of inRange, laid by the call itself. -/
theorem inRange_new (zs : List Int) (w : World) (t : TypeId) (hm : zs.length ≤ 9223372036854775807) (b : Bool) (hb : allIn zs = b) :
    Calls Tryd.prog 55 #[.slice (some ⟨w.heap.size, 0, none⟩) zs.length zs.length] (w.alloc (.cells (zs.map (Value.int .i64)).toArray t)) fun e w' => e = .returned (.bool b) ∧ w' = w.alloc (.cells (zs.map (Value.int .i64)).toArray t) := by
  subst hb
  refine inRange_any _ 0 zs.length zs.length zs _ rfl hm ?_
  intro j hj
  rw [cellsNew _ _ _ _ (by simpa using hj)]
  simp [List.getD, List.getElem?_eq_getElem hj]

theorem inRange2 (a1 a2 : Int) (w : World) (b : Bool) (hb : (inB a1 && inB a2) = b) : Calls Tryd.prog 55 #[.slice (some ⟨w.heap.size, 0, none⟩) 2 2] (w.alloc (.cells #[.int .i64 a1, .int .i64 a2] 3)) fun e w' => e = .returned (.bool b) ∧ w' = w.alloc (.cells #[.int .i64 a1, .int .i64 a2] 3) :=
  inRange_new [a1, a2] w 3 (by simp) b (by simp [allIn, ← hb])

/-- 'e' is the pair r, and the world has only grown. -/
def Pair (r : Int × Bool) (w : World) (e : Ending) (w' : World) : Prop := e = .returned (.tuple #[.int .i64 r.1, .bool r.2]) ∧ Grown w w'

/-- 'e' is the integer n, and the world has only grown. -/
def Num (n : Int) (w : World) (e : Ending) (w' : World) : Prop := e = .returned (.int .i64 n) ∧ Grown w w'

/-- The absolute value of an int that is not the least. -/
theorem magnitude_any (n : Int) (w : World) (h1 : -1125899906842624 ≤ n) (h2 : n ≤ 1125899906842624) :
    Calls Tryd.prog 57 #[.int .i64 n] w fun e w' => e = .returned (.int .u64 (n.natAbs : Int)) ∧ w' = w := by
  by_cases h : n < 0
  · go_enter Tryd.func57, Tryd.ntmps57
    go_wp2
    go_ret
    refine ⟨?_, rfl⟩
    congr 2
    go_arith
  · go_enter Tryd.func57, Tryd.ntmps57
    go_wp2
    go_ret
    refine ⟨?_, rfl⟩
    congr 2
    go_arith

/-- The magnitude, by a name of its own. -/
theorem magnitude_as (n A : Int) (w : World) (h1 : -1125899906842624 ≤ n) (h2 : n ≤ 1125899906842624) (hA : Hid ((n.natAbs : Int) = A)) :
    Calls Tryd.prog 57 #[.int .i64 n] w fun e w' => e = .returned (.int .u64 A) ∧ w = w' :=
  (magnitude_any n w h1 h2).mono fun e w' ⟨he, hw⟩ => ⟨by rw [he, hA.out], hw.symm⟩

theorem wrap_nat (n : Nat) (h : n < 18446744073709551616) : IntKind.u64.wrap (n : Int) = n := by rw [IntKind.wrap_u64]; omega

theorem both_yes {a b : Int} (ha : inB a = true) (hb : inB b = true) : (inB a && inB b) = true := by rw [ha, hb]; rfl

theorem both_no {a b : Int} (h : ¬ (inB a = true ∧ inB b = true)) : (inB a && inB b) = false := by
  cases ha : inB a <;> cases hb : inB b <;> simp_all

theorem both_ge {a b : Int} (h : ¬ (inB a = true ∧ inB b = true ∧ 1 ≤ b)) : (inB a && inB b) = false ∨ ((inB a && inB b) = true ∧ b < 1) := by
  cases ha : inB a <;> cases hb : inB b <;> simp_all

/-- Go's division, corrected, is the floor. -/
theorem floor_of_neg (a b : Int) (hb : 1 ≤ b) (h : a.tmod b < 0) : a.tdiv b - 1 = a / b := by
  have e := Int.mul_tdiv_add_tmod a b
  have h2 := Int.tmod_lt_of_pos (-a) (show 0 < b by omega)
  rw [Int.neg_tmod] at h2
  refine ((Int.ediv_emod_unique (show 0 < b by omega)).2 ⟨?_, ?_, ?_⟩ : a / b = a.tdiv b - 1 ∧ a % b = a.tmod b + b).1.symm
  · rw [Int.mul_sub]; omega
  · omega
  · omega

theorem floor_of_nonneg (a b : Int) (hb : 1 ≤ b) (h : ¬ a.tmod b < 0) : a.tdiv b = a / b := by
  have e := Int.mul_tdiv_add_tmod a b
  have h2 := Int.tmod_lt_of_pos a (show 0 < b by omega)
  refine ((Int.ediv_emod_unique (show 0 < b by omega)).2 ⟨?_, ?_, ?_⟩ : a / b = a.tdiv b ∧ a % b = a.tmod b).1.symm
  · omega
  · omega
  · omega

theorem tdiv_bounds (a b : Int) (h1 : -1125899906842624 ≤ a) (h2 : a ≤ 1125899906842624) : -1125899906842624 ≤ a.tdiv b ∧ a.tdiv b ≤ 1125899906842624 := by
  have e : (a.tdiv b).natAbs = a.natAbs / b.natAbs := Int.natAbs_tdiv a b
  have := Nat.div_le_self a.natAbs b.natAbs
  omega

theorem floor_bounds (a b : Int) (hb : 1 ≤ b) (h1 : -1125899906842624 ≤ a) (h2 : a ≤ 1125899906842624) : -1125899906842624 ≤ a / b ∧ a / b ≤ 1125899906842624 := by
  constructor
  · rw [Int.le_ediv_iff_mul_le (by omega)]
    have : (-1125899906842624 : Int) * b ≤ -1125899906842624 := by omega
    omega
  · by_cases h : 0 ≤ a
    · have := Int.ediv_le_self b h; omega
    · have : a / b ≤ 0 := by
        have := Int.ediv_le_ediv (c := b) (by omega) (show a ≤ 0 by omega)
        simpa using this
      omega

theorem floor_yes (a b : Int) (w : World) (ha : inB a = true) (hb : inB b = true) (h1 : 1 ≤ b) : Calls Tryd.prog 53 #[.int .i64 a, .int .i64 b] w (Pair (a / b, true) w) := by
  have H := Lib.hid (both_yes ha hb)
  have b1 := (inB_iff a).1 ha
  have b2 := (inB_iff b).1 hb
  have hq := tdiv_bounds a b b1.1 b1.2
  clear ha hb
  by_cases hr : a.tmod b < 0
  · have E := Lib.hid (floor_of_neg a b h1 hr)
    go_enter Tryd.func53, Tryd.ntmps53
    go_wp2_with (go_at_call 55; refine (inRange2 a b w true H.out).mono ?_; rintro e w' ⟨rfl, rfl⟩)
    go_ret2
    exact ⟨by rw [← E.out]; rfl, by go_grown⟩
  · have E := Lib.hid (floor_of_nonneg a b h1 hr)
    go_enter Tryd.func53, Tryd.ntmps53
    go_wp2_with (go_at_call 55; refine (inRange2 a b w true H.out).mono ?_; rintro e w' ⟨rfl, rfl⟩)
    go_ret2
    exact ⟨by rw [← E.out]; rfl, by go_grown⟩

theorem floor_no (a b : Int) (w : World) (h : ¬ (inB a = true ∧ inB b = true ∧ 1 ≤ b)) : Calls Tryd.prog 53 #[.int .i64 a, .int .i64 b] w (Pair (0, false) w) := by
  rcases both_ge h with h1 | ⟨h1, h2⟩
  · have H := Lib.hid h1
    clear h h1
    go_enter Tryd.func53, Tryd.ntmps53
    go_wp2_with (go_at_call 55; refine (inRange2 a b w false H.out).mono ?_; rintro e w' ⟨rfl, rfl⟩)
    go_ret2
    exact ⟨rfl, by go_grown⟩
  · have H := Lib.hid h1
    clear h h1
    go_enter Tryd.func53, Tryd.ntmps53
    go_wp2_with (go_at_call 55; refine (inRange2 a b w true H.out).mono ?_; rintro e w' ⟨rfl, rfl⟩)
    go_ret2
    exact ⟨rfl, by go_grown⟩

theorem floor_any (a b : Int) (w : World) : Calls Tryd.prog 53 #[.int .i64 a, .int .i64 b] w (Pair (floorS a b) w) := by
  unfold floorS
  by_cases h : inB a = true ∧ inB b = true ∧ 1 ≤ b
  · rw [if_pos h]; exact floor_yes a b w h.1 h.2.1 h.2.2
  · rw [if_neg h]; exact floor_no a b w h

theorem wrap_neg_out (a : Int) (h1 : -9223372036854775808 ≤ a) (h2 : a ≤ 9223372036854775807) (h : inB a = false) : inB (wrap64 (-a)) = false := by
  rw [inB_no] at h ⊢
  unfold wrap64; omega

theorem inB_neg {a : Int} (h : inB a = true) : inB (-a) = true := by
  rw [inB_iff] at h ⊢; omega

theorem ceil_no (a b : Int) (w : World) (w1 : Hid (-9223372036854775808 ≤ a ∧ a ≤ 9223372036854775807)) (h : ¬ (inB a = true ∧ inB b = true ∧ 1 ≤ b)) : Calls Tryd.prog 54 #[.int .i64 a, .int .i64 b] w (Pair (0, false) w) := by
  have H : Hid (¬ (inB (wrap64 (-a)) = true ∧ inB b = true ∧ 1 ≤ b)) := Lib.hid (by
    rintro ⟨x, y, z⟩
    cases ha : inB a with
    | true => exact h ⟨ha, y, z⟩
    | false => rw [wrap_neg_out a w1.out.1 w1.out.2 ha] at x; exact Bool.noConfusion x)
  clear h w1
  go_enter Tryd.func54, Tryd.ntmps54
  go_wp2_with (go_at_call 53; refine (floor_no (wrap64 (-a)) b _ H.out).mono ?_; rintro e w' ⟨rfl, hg⟩)
  go_ret2
  exact ⟨rfl, hg⟩

theorem ceil_yes (a b : Int) (w : World) (ha : inB a = true) (hb : inB b = true) (h1 : 1 ≤ b) : Calls Tryd.prog 54 #[.int .i64 a, .int .i64 b] w (Pair (-((-a) / b), true) w) := by
  have b1 := (inB_iff a).1 ha
  have hq := floor_bounds (-a) b h1 (by omega) (by omega)
  have A := Lib.hid (inB_neg ha)
  have HB := Lib.hid hb
  have H1 := Lib.hid h1
  generalize hq' : (-a) / b = q at hq
  have HQ := Lib.hid hq'
  clear ha hb h1 hq'
  go_enter Tryd.func54, Tryd.ntmps54
  go_wp2_with (go_at_call 53; refine (floor_yes (-a) b _ A.out HB.out H1.out).mono ?_; rw [HQ.out]; rintro e w' ⟨rfl, hg⟩)
  go_ret2
  exact ⟨rfl, hg⟩

theorem ceil_any (a b : Int) (w : World) (w1 : -9223372036854775808 ≤ a ∧ a ≤ 9223372036854775807) : Calls Tryd.prog 54 #[.int .i64 a, .int .i64 b] w (Pair (ceilS a b) w) := by
  unfold ceilS
  by_cases h : inB a = true ∧ inB b = true ∧ 1 ≤ b
  · rw [if_pos h]; exact ceil_yes a b w h.1 h.2.1 h.2.2
  · rw [if_neg h]; exact ceil_no a b w (Lib.hid w1) h

end Go.Proofs.YtiibpdameldblaaDoor
