/- NumLarge's walk. -/
import Derived.Test.YtbdjdmgohjjnaaaDoorLawExact
namespace Go.Proofs.YtbdjdmgohjjnaaaDoor
open Go Go.RowKit

/-- A floor of a sum lies between the sum of the floors and one more. -/
theorem floor_add (x y c : Int) (hc : 0 < c) : x / c + y / c ≤ (x + y) / c ∧ (x + y) / c ≤ x / c + y / c + 1 := by
  have e1 := Int.mul_ediv_add_emod x c
  have e2 := Int.mul_ediv_add_emod y c
  have m1 := Int.emod_nonneg x (show c ≠ 0 by omega)
  have m2 := Int.emod_lt_of_pos x hc
  have m3 := Int.emod_nonneg y (show c ≠ 0 by omega)
  have m4 := Int.emod_lt_of_pos y hc
  rw [Int.mul_comm] at e1 e2
  have s : (x / c + y / c) * c = x / c * c + y / c * c := Int.add_mul _ _ _
  constructor
  · rw [Int.le_ediv_iff_mul_le hc]; omega
  · apply Int.le_of_lt_add_one
    rw [Int.ediv_lt_iff_lt_mul hc, Int.add_mul, Int.add_mul, s]; omega

set_option maxRecDepth 100000 in
set_option maxHeartbeats 4000000 in
theorem large_core (n0 n1 n2 c0 c a bb b q more neg l rest high : Int) (w : World) (hT : Tab w) (K0 : Hid (wrap64 ((IntKind.u64.wrap n2).tmod 1125899906842624) = c0)) (K1 : Hid (1 + c0 = c)) (_hc0 : 0 ≤ c0 ∧ c0 ≤ 1125899906842624)
    (K2 : Hid (IntKind.i64.wrap ((IntKind.u64.wrap n0).tmod 1125899906842624) = a)) (KC : Hid (IntKind.u64.wrap c = c)) (K3 : Hid ((IntKind.u64.wrap n1).tmod c = bb)) (K4 : Hid (IntKind.i64.wrap bb = b))
    (ha : 0 ≤ a ∧ a ≤ 1125899906842624) (hc : 1 ≤ c ∧ c ≤ 1125899906842624) (hb : 0 ≤ b ∧ b < c) (hq : 0 ≤ q ∧ q ≤ a) (hm : q ≤ more ∧ more ≤ a) (hn : neg ≤ -q ∧ -q - 1 ≤ neg)
    (hl : 0 ≤ l ∧ l ≤ a) (hr : 0 ≤ rest ∧ rest ≤ 1125899906842624) (hh : 0 ≤ high ∧ high ≤ 1125899906842624) (hs : high + rest ≤ q ∧ q ≤ high + rest + 1)
    (Q : Hid (mulDivS a b c = (q, true))) (M : Hid (mulDivS a (b + 1) c = (more, true))) (O : Hid (mulDivS b a c = (q, true))) (N : Hid (mulDivS (-a) b c = (neg, true)))
    (KL : Hid (a % 4096 = l)) (R : Hid (mulDivS l b c = (rest, true))) (G : Hid (mulDivS (a - l) b c = (high, true))) :
    Calls Tryd.prog 8 #[.agg #[.int .i64 n0, .int .i64 n1, .int .i64 n2]] w fun e w' => e = .returned (.bool true) ∧ Grown w w' := by
  have HT := Lib.hid hT
  clear hT
  go_enter Tryd.func8, Tryd.ntmps8
  go_wp2_with fail
  go_at_call 18
  refine (works_true _ (HT.out.grown (by go_grown))).mono ?_
  rintro e w1 ⟨rfl, hg1⟩
  have f0 : w1.cell? ⟨w.heap.size, 0, none⟩ = some (.int .i64 n0) := grownSome hg1 (by simp [go_sem])
  have f1 : w1.cell? ⟨w.heap.size, 1, none⟩ = some (.int .i64 n1) := grownSome hg1 (by simp [go_sem])
  have f2 : w1.cell? ⟨w.heap.size, 2, none⟩ = some (.int .i64 n2) := grownSome hg1 (by simp [go_sem])
  have G1 := Lib.hid (grownTrans (by go_grown) hg1 : Grown w w1)
  clear hg1
  have k0 := K0.out
  have k1 := K1.out
  go_wp2_with fail
  clear k0 k1
  have k2 := K2.out
  have k3 := K3.out
  have k4 := K4.out
  have kc := KC.out
  have cz : (c == 0) = false := by simp; omega
  go_quiet (fail)
  clear k2 k3 k4 kc f0 f1 f2
  have G2 := Lib.hid (grownDrewNE G1.out nq)
  go_wp2_with fail
  go_at_call 25
  refine (mulDiv_is a b c (q, true) Q.out _).mono ?_
  rintro e w2 ⟨rfl, hg⟩
  have G3 := Lib.hid (grownTrans G2.out hg)
  clear hg
  go_wp2_with fail
  go_at_call 25
  refine (mulDiv_is a (b + 1) c (more, true) M.out _).mono ?_
  rintro e w3 ⟨rfl, hg⟩
  have G4 := Lib.hid (grownTrans G3.out hg)
  clear hg
  go_wp2_with fail
  go_at_call 25
  refine (mulDiv_is b a c (q, true) O.out _).mono ?_
  rintro e w4 ⟨rfl, hg⟩
  have G5 := Lib.hid (grownTrans G4.out hg)
  clear hg
  go_wp2_with fail
  go_at_call 25
  refine (mulDiv_is (-a) b c (neg, true) N.out _).mono ?_
  rintro e w5 ⟨rfl, hg⟩
  have G6 := Lib.hid (grownTrans G5.out hg)
  clear hg
  have kl := KL.out
  go_wp2_with fail
  go_at_call 25
  refine (mulDiv_is l b c (rest, true) R.out _).mono ?_
  rintro e w6 ⟨rfl, hg⟩
  have G7 := Lib.hid (grownTrans G6.out hg)
  clear hg
  go_wp2_with fail
  go_at_call 25
  refine (mulDiv_is (a - l) b c (high, true) G.out _).mono ?_
  rintro e w7 ⟨rfl, hg⟩
  have G8 := Lib.hid (grownTrans G7.out hg)
  clear hg
  have s1 : decide (high + rest ≤ q) = true := by simp; omega
  have s2 : decide (q ≤ high + rest + 1) = true := by simp; omega
  go_wp2
  go_ret
  exact ⟨by simp, G8.out⟩

theorem frac_range (a b c : Int) (ha : 0 ≤ a) (hb : 0 ≤ b) (hbc : b ≤ c) (hc : 0 < c) : 0 ≤ a * b / c ∧ a * b / c ≤ a := by
  refine ⟨Int.ediv_nonneg (Int.mul_nonneg ha hb) (by omega), ?_⟩
  apply Int.le_of_lt_add_one
  rw [Int.ediv_lt_iff_lt_mul hc, Int.add_mul]
  have := Int.mul_le_mul_of_nonneg_left hbc ha
  omega

theorem large_true (n0 n1 n2 : Int) (w : World) (hT : Tab w) :
    Calls Tryd.prog 8 #[.agg #[.int .i64 n0, .int .i64 n1, .int .i64 n2]] w fun e w' => e = .returned (.bool true) ∧ Grown w w' := by
  have hc0 := umod_range n2 1125899906842624 (by omega) (by omega)
  have ha := umod_range n0 1125899906842624 (by omega) (by omega)
  rw [IntWalk.i64_left ((IntKind.u64.wrap n2).tmod 1125899906842624)] at hc0
  obtain ⟨c0, ec0⟩ : ∃ z, wrap64 ((IntKind.u64.wrap n2).tmod 1125899906842624) = z := ⟨_, rfl⟩
  obtain ⟨a, ea⟩ : ∃ z, IntKind.i64.wrap ((IntKind.u64.wrap n0).tmod 1125899906842624) = z := ⟨_, rfl⟩
  rw [ec0] at hc0
  rw [ea] at ha
  obtain ⟨c, ec⟩ : ∃ z, 1 + c0 = z := ⟨_, rfl⟩
  have KC : IntKind.u64.wrap c = c := IntWalk.u64_in c (by omega)
  have hb := umod_range n1 c (by omega) (by omega)
  obtain ⟨bb, ebb⟩ : ∃ z, (IntKind.u64.wrap n1).tmod c = z := ⟨_, rfl⟩
  rw [ebb] at hb
  obtain ⟨b, eb⟩ : ∃ z, IntKind.i64.wrap bb = z := ⟨_, rfl⟩
  rw [eb] at hb
  obtain ⟨l, el⟩ : ∃ z, a % 4096 = z := ⟨_, rfl⟩
  have hl : 0 ≤ l ∧ l ≤ a := by omega
  have r1 := frac_range a b c ha.1 hb.1 (by omega) (by omega)
  have r2 := frac_range a (b + 1) c ha.1 (by omega) (by omega) (by omega)
  have r3 := frac_range l b c hl.1 hb.1 (by omega) (by omega)
  have r4 := frac_range (a - l) b c (by omega) hb.1 (by omega) (by omega)
  have mono : a * b / c ≤ a * (b + 1) / c := by
    apply Int.ediv_le_ediv (by omega)
    exact Int.mul_le_mul_of_nonneg_left (by omega) ha.1
  have fa := floor_add ((a - l) * b) (l * b) c (by omega)
  rw [show (a - l) * b + l * b = a * b by rw [Int.sub_mul]; omega] at fa
  have ng : -a * b / c ≤ -(a * b / c) ∧ -(a * b / c) - 1 ≤ -a * b / c := by
    rw [Int.neg_mul]
    have := floor_add (a * b) (-(a * b)) c (by omega)
    rw [show a * b + -(a * b) = 0 by omega, Int.zero_ediv] at this
    omega
  have Q := mulDivS_yes a b c (by omega) (by omega) (by omega) (by omega)
  have M := mulDivS_yes a (b + 1) c (by omega) (by omega) (by omega) (by omega)
  have O := mulDivS_yes b a c (by omega) (by omega) (by omega) (by rw [Int.mul_comm]; omega)
  have N := mulDivS_yes (-a) b c (by omega) (by omega) (by omega) (by omega)
  have R := mulDivS_yes l b c (by omega) (by omega) (by omega) (by omega)
  have G := mulDivS_yes (a - l) b c (by omega) (by omega) (by omega) (by omega)
  rw [Int.mul_comm b a] at O
  exact large_core n0 n1 n2 c0 c a bb b _ _ _ l _ _ w hT (Lib.hid ec0) (Lib.hid ec) (by omega) (Lib.hid ea) (Lib.hid KC) (Lib.hid ebb) (Lib.hid eb) (by omega) (by omega) hb r1 ⟨mono, r2.2⟩ ng hl (by omega) (by omega) fa
    (Lib.hid Q) (Lib.hid M) (Lib.hid O) (Lib.hid N) (Lib.hid el) (Lib.hid R) (Lib.hid G)

end Go.Proofs.YtbdjdmgohjjnaaaDoor
