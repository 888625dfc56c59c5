/- NumExact's walk. -/
import Derived.Test.YtbdjdmgohjjnaaaDoorKnown
import Derived.Test.YtbdjdmgohjjnaaaDoorNear
import Derived.Deep.QuietTactic
import Derived.BigQuiet
import Derived.WalkLawsBesides
namespace Go.Proofs.YtbdjdmgohjjnaaaDoor
open Go Go.RowKit

theorem grownDrewNE {W w : World} (h : Grown W w) (n : Nat) : Grown W (w.drewN n) := by
  induction n generalizing w with
  | zero => exact h
  | succ n ih => exact ih h.drew

theorem floorS_yes (a b : Int) (ha : -1125899906842624 ≤ a ∧ a ≤ 1125899906842624) (hb : 1 ≤ b ∧ b ≤ 1125899906842624) : floorS a b = (a / b, true) := by
  unfold floorS; rw [if_pos ⟨(inB_iff a).2 ha, (inB_iff b).2 (by omega), hb.1⟩]
theorem modS_yes (a b : Int) (ha : -1125899906842624 ≤ a ∧ a ≤ 1125899906842624) (hb : 1 ≤ b ∧ b ≤ 1125899906842624) : modS a b = (a % b, true) := by
  unfold modS; rw [if_pos ⟨(inB_iff a).2 ha, (inB_iff b).2 (by omega), hb.1⟩]
theorem ceilS_yes (a b : Int) (ha : -1125899906842624 ≤ a ∧ a ≤ 1125899906842624) (hb : 1 ≤ b ∧ b ≤ 1125899906842624) : ceilS a b = (-((-a) / b), true) := by
  unfold ceilS; rw [if_pos ⟨(inB_iff a).2 ha, (inB_iff b).2 (by omega), hb.1⟩]
theorem mulDivS_yes (a b c : Int) (ha : -1125899906842624 ≤ a ∧ a ≤ 1125899906842624) (hb : -1125899906842624 ≤ b ∧ b ≤ 1125899906842624) (hc : 1 ≤ c ∧ c ≤ 1125899906842624) (h : -1125899906842624 ≤ a * b / c ∧ a * b / c ≤ 1125899906842624) : mulDivS a b c = (a * b / c, true) := by
  unfold mulDivS resS
  rw [if_pos ⟨(inB_iff a).2 ha, (inB_iff b).2 hb, (inB_iff c).2 (by omega), hc.1⟩, if_pos ((inB_iff _).2 h)]

/-- The quotients of a and of -a. -/
theorem quot_pair (a b q r : Int) (hb : 1 ≤ b) (hq : a / b = q) (hr : a % b = r) : q * b + r = a ∧ 0 ≤ r ∧ r < b ∧ (r = 0 → (-a) / b = -q) ∧ (0 < r → (-a) / b = -q - 1) := by
  have e := Int.mul_ediv_add_emod a b
  rw [Int.mul_comm, hq, hr] at e
  have m0 := Int.emod_nonneg a (show b ≠ 0 by omega)
  have m1 := Int.emod_lt_of_pos a (show 0 < b by omega)
  rw [hr] at m0 m1
  refine ⟨e, m0, m1, fun h => ?_, fun h => ?_⟩
  · exact ((floor_neg0 (-a) b q (by omega) (by omega))).symm
  · exact ((floor_neg1 (-a) b q r (by omega) h m1)).symm

theorem small_product (s c : Int) (hs : -16777216 ≤ s ∧ s ≤ 16777216) (hc : -16777216 ≤ c ∧ c ≤ 16777216) : -281474976710656 ≤ s * c ∧ s * c ≤ 281474976710656 := by
  have h : (s * c).natAbs ≤ 16777216 * 16777216 := by rw [Int.natAbs_mul]; exact Nat.mul_le_mul (by omega) (by omega)
  omega

theorem tmod_range (n m : Int) (hm : 0 < m) : -m < n.tmod m ∧ n.tmod m < m := by
  have h1 := Int.tmod_lt_of_pos n hm
  have h2 := Int.tmod_lt_of_pos (-n) hm
  rw [Int.neg_tmod] at h2
  omega
theorem umod_range (n m : Int) (hm : 0 < m) (hm2 : m ≤ 9223372036854775807) : 0 ≤ IntKind.i64.wrap ((IntKind.u64.wrap n).tmod m) ∧ IntKind.i64.wrap ((IntKind.u64.wrap n).tmod m) < m := by
  have h0 : 0 ≤ IntKind.u64.wrap n := by rw [IntKind.wrap_u64]; omega
  generalize IntKind.u64.wrap n = u at *
  rw [Int.tmod_eq_emod_of_nonneg h0]
  have a := Int.emod_nonneg u (show m ≠ 0 by omega)
  have b := Int.emod_lt_of_pos u hm
  rw [IntWalk.i64_in _ (by omega)]
  exact ⟨a, b⟩

set_option maxRecDepth 100000 in
set_option maxHeartbeats 4000000 in
theorem exact_core (n0 n1 n2 a b0 b c q r up dn s d t : Int) (w : World) (hT : Tab w) (K0 : n0.tmod 1125899906842624 = a) (K1 : IntKind.i64.wrap ((IntKind.u64.wrap n1).tmod 1125899906842624) = b0) (K2 : IntKind.i64.wrap (1 + b0) = b) (K3 : n2.tmod 16777216 = c)
    (ha : -1125899906842624 ≤ a ∧ a ≤ 1125899906842624) (hb : 1 ≤ b ∧ b ≤ 1125899906842624) (hr : 0 ≤ r ∧ r < b)
    (hqb : -2251799813685248 ≤ q * b ∧ q * b ≤ 2251799813685248) (hq : -1125899906842624 ≤ q ∧ q ≤ 1125899906842624) (hdn : -1125899906842624 ≤ dn ∧ dn ≤ 1125899906842624) (hsc : -281474976710656 ≤ s * c ∧ s * c ≤ 281474976710656)
    (Q : Hid (floorS a b = (q, true))) (R : Hid (modS a b = (r, true))) (U : Hid (ceilS a b = (up, true))) (D : Hid (floorS (-a) b = (dn, true)))
    (E1 : Hid (q * b + r = a)) (E2 : Hid (-dn = up)) (E3 : Hid (up - q = min r 1)) (M1 : Hid (mulDivS a b b = (a, true))) (KS : Hid (a.tmod 16777216 = s)) (KD : Hid (1 + b % 1048576 = d)) (M2 : Hid (mulDivS s c d = (t, true))) (M3 : Hid (floorS (s * c) d = (t, true))) (FA : Hid (Fits a)) :
    Calls Tryd.prog 7 #[.agg #[.int .i64 n0, .int .i64 n1, .int .i64 n2]] w fun e w' => e = .returned (.bool true) ∧ Grown w w' := by
  have HT := Lib.hid hT
  clear hT
  go_enter Tryd.func7, Tryd.ntmps7
  go_wp2_with fail
  go_at_call 18
  refine (works_true _ (HT.out.grown (by go_grown))).mono ?_
  rintro e w1 ⟨rfl, hg1⟩
  have c0 : w1.cell? ⟨w.heap.size, 0, none⟩ = some (.int .i64 n0) := grownSome hg1 (by simp [go_sem])
  have c1 : w1.cell? ⟨w.heap.size, 1, none⟩ = some (.int .i64 n1) := grownSome hg1 (by simp [go_sem])
  have c2 : w1.cell? ⟨w.heap.size, 2, none⟩ = some (.int .i64 n2) := grownSome hg1 (by simp [go_sem])
  have G1 := Lib.hid (grownTrans (by go_grown) hg1 : Grown w w1)
  clear hg1
  go_wp2_with fail
  go_quiet (fail)
  clear K0 K1 K2 K3 c0 c1 c2
  have G2 := Lib.hid (grownDrewNE G1.out nq)
  go_wp2_with fail
  go_at_call 19
  refine (floor_is a b (q, true) Q.out _).mono ?_
  rintro e w2 ⟨rfl, hg⟩
  have G3 := Lib.hid (grownTrans G2.out hg)
  clear hg
  go_wp2_with fail
  go_at_call 23
  refine (mod_is a b (r, true) R.out _).mono ?_
  rintro e w3 ⟨rfl, hg⟩
  have G4 := Lib.hid (grownTrans G3.out hg)
  clear hg
  go_wp2_with fail
  go_at_call 21
  refine (ceil_is a b (up, true) U.out _ FA.out).mono ?_
  rintro e w4 ⟨rfl, hg⟩
  have G5 := Lib.hid (grownTrans G4.out hg)
  clear hg
  go_wp2_with fail
  go_at_call 19
  refine (floor_is (-a) b (dn, true) D.out _).mono ?_
  rintro e w5 ⟨rfl, hg⟩
  have G6 := Lib.hid (grownTrans G5.out hg)
  clear hg
  have e1 := E1.out
  have e2 := E2.out
  have e3 := E3.out
  have e4 := KS.out
  have e5 := KD.out
  go_wp2_with fail
  go_at_call 25
  refine (mulDiv_is a b b (a, true) M1.out _).mono ?_
  rintro e w6 ⟨rfl, hg⟩
  have G7 := Lib.hid (grownTrans G6.out hg)
  clear hg e1 e2 e3
  go_wp2_with fail
  go_at_call 25
  refine (mulDiv_is s c d (t, true) M2.out _).mono ?_
  rintro e w7 ⟨rfl, hg⟩
  have G8 := Lib.hid (grownTrans G7.out hg)
  clear hg
  go_wp2_with fail
  go_at_call 19
  refine (floor_is (s * c) d (t, true) M3.out _).mono ?_
  rintro e w8 ⟨rfl, hg⟩
  have G9 := Lib.hid (grownTrans G8.out hg)
  clear hg
  go_wp2_with (go_at_call 31; ((with_reducible refine (is_true _ _).mono ?_); rintro e w' ⟨rfl, rfl⟩))
  go_ret
  exact ⟨rfl, G9.out⟩

theorem mulS_same (a b : Int) (hb : 1 ≤ b) : a * b / b = a := Int.mul_ediv_cancel a (by omega)

theorem exact_true (n0 n1 n2 : Int) (w : World) (hT : Tab w) :
    Calls Tryd.prog 7 #[.agg #[.int .i64 n0, .int .i64 n1, .int .i64 n2]] w fun e w' => e = .returned (.bool true) ∧ Grown w w' := by
  have ha := tmod_range n0 1125899906842624 (by omega)
  have hc := tmod_range n2 16777216 (by omega)
  obtain ⟨a, ea⟩ : ∃ z, n0.tmod 1125899906842624 = z := ⟨_, rfl⟩
  obtain ⟨c, ec⟩ : ∃ z, n2.tmod 16777216 = z := ⟨_, rfl⟩
  obtain ⟨b0, eb0⟩ : ∃ z, IntKind.i64.wrap ((IntKind.u64.wrap n1).tmod 1125899906842624) = z := ⟨_, rfl⟩
  have hb0 : 0 ≤ b0 ∧ b0 < 1125899906842624 := by rw [← eb0]; exact umod_range n1 1125899906842624 (by omega) (by omega)
  obtain ⟨b, eb⟩ : ∃ z, IntKind.i64.wrap (1 + b0) = z := ⟨_, rfl⟩
  have hb : b = 1 + b0 := by rw [← eb]; exact IntWalk.i64_in _ (by omega)
  rw [ea] at ha
  rw [ec] at hc
  obtain ⟨q, eq⟩ : ∃ z, a / b = z := ⟨_, rfl⟩
  obtain ⟨r, er⟩ : ∃ z, a % b = z := ⟨_, rfl⟩
  obtain ⟨p1, p2, p3, p4, p5⟩ := quot_pair a b q r (by omega) eq er
  have qb := floor_bounds a b (by omega) (by omega) (by omega)
  rw [eq] at qb
  have db := floor_bounds (-a) b (by omega) (by omega) (by omega)
  have hs := tmod_range a 16777216 (by omega)
  obtain ⟨s, es⟩ : ∃ z, a.tmod 16777216 = z := ⟨_, rfl⟩
  rw [es] at hs
  obtain ⟨d, ed⟩ : ∃ z, 1 + b % 1048576 = z := ⟨_, rfl⟩
  have sp := small_product s c (by omega) (by omega)
  have sq := floor_bounds (s * c) d (by omega) (by omega) (by omega)
  have Q := floorS_yes a b (by omega) (by omega)
  have R := modS_yes a b (by omega) (by omega)
  have U := ceilS_yes a b (by omega) (by omega)
  have D := floorS_yes (-a) b (by omega) (by omega)
  have M1 := mulDivS_yes a b b (by omega) (by omega) (by omega) (by rw [mulS_same a b (by omega)]; omega)
  have M2 := mulDivS_yes s c d (by omega) (by omega) (by omega) sq
  have M3 := floorS_yes (s * c) d (by omega) (by omega)
  rw [eq] at Q
  rw [er] at R
  rw [mulS_same a b (by omega)] at M1
  have hup : -((-a) / b) - q = min r 1 := by
    rcases Int.lt_or_le 0 r with h | h
    · rw [p5 h]; omega
    · rw [p4 (by omega)]; omega
  exact exact_core n0 n1 n2 a b0 b c q r (-((-a) / b)) ((-a) / b) s d (s * c / d) w hT ea eb0 eb ec (by omega) (by omega) ⟨p2, p3⟩ (by omega) qb db sp
    (Lib.hid Q) (Lib.hid R) (Lib.hid U) (Lib.hid D) (Lib.hid p1) (Lib.hid rfl) (Lib.hid hup) (Lib.hid M1) (Lib.hid es) (Lib.hid ed) (Lib.hid M2) (Lib.hid M3) (Lib.hid ⟨by omega, by omega⟩)

end Go.Proofs.YtbdjdmgohjjnaaaDoor
