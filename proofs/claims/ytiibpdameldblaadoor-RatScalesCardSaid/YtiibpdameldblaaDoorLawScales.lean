/- RatScales' walk: whatever factor the parts share. -/
import Derived.Test.YtiibpdameldblaaDoorWorks
import Derived.Test.YtiibpdameldblaaDoorOrderMath
namespace Go.Proofs.YtiibpdameldblaaDoor
open Go Go.RowKit

set_option maxRecDepth 100000 in
set_option maxHeartbeats 4000000 in
theorem scales_walk (n d k p q f P Q x y Z : Int) (w : World) (hT : Tab w) (e1 : Hid (n.tmod 1073741824 = p)) (e2 : Hid (wrap64 (1 + wrap64 ((IntKind.u64.wrap d).tmod 1073741824)) = q)) (hk : 0 ≤ k ∧ k ≤ 4294967295) (e3 : Hid (k + 1 = f))
    (e4 : Hid (IntKind.i64.wrap (p * f) = P ∧ IntKind.i64.wrap (q * f) = Q ∧ IntKind.i64.wrap (-p * f) = -P ∧ IntKind.i64.wrap (-q * f) = -Q ∧ IntKind.i64.wrap (-(p * f)) = -P ∧ IntKind.i64.wrap (-(q * f)) = -Q)) (e5 : Hid (IntKind.i64.wrap (x * q) = Z ∧ IntKind.i64.wrap (p * y) = Z))
    (hp : -1073741824 ≤ p ∧ p ≤ 1073741824) (hq : 1 ≤ q ∧ q ≤ 1073741824)
    (M0 : Hid (makeS p q = (x, y, 0))) (M1 : Hid (makeS P Q = (x, y, 0))) (M2 : Hid (makeS (-P) (-Q) = (x, y, 0))) (M3 : Hid (makeS x y = (x, y, 0))) (M4 : Hid (checkS x y = 0)) :
    Calls Tryd.prog 8 #[.int .i64 n, .int .i64 d, .int .u32 k] w fun e w' => e = .returned (.bool true) ∧ Grown w w' := by
  have HT := Lib.hid hT
  clear hT
  go_enter Tryd.func8, Tryd.ntmps8
  have E1 := e1.out
  have E2 := e2.out
  have E3 : 1 + k = f := by have := e3.out; omega
  have E4 := e4.out.1
  have E5 := e4.out.2.1
  have E6 := e4.out.2.2.1
  have E7 := e4.out.2.2.2.1
  have E8 := e4.out.2.2.2.2.1
  have E9 := e4.out.2.2.2.2.2
  have E10 := e5.out.1
  have E11 := e5.out.2
  have HT0 := HT
  have G0 : Hid (Grown w w) := Lib.hid (Grown.refl _)
  go_wp2_with fail
  go_at_call 14
  refine (works_true _ HT0.out).mono ?_
  rintro _ w1 ⟨rfl, hg1⟩
  have G1 : Hid (Grown w w1) := Lib.hid (grownTrans G0.out hg1)
  have K1 := Lib.hid hg1
  clear hg1 K1
  have HT1 : Hid (Tab w1) := Lib.hid (HT.out.grown G1.out)
  go_wp2_with fail
  rw [E2]
  clear E1 E2 E3 e1 e2 e3
  go_wp2_with fail
  go_at_call 10
  refine (make_is p q (x, y, 0) M0.out _).mono ?_
  rintro _ w2 ⟨rfl, hg2⟩
  have G2 : Hid (Grown w w2) := Lib.hid (grownTrans G1.out hg2)
  have K2 := Lib.hid hg2
  clear hg2 K2
  clear HT1
  have HT2 : Hid (Tab w2) := Lib.hid (HT.out.grown G2.out)
  go_wp2_with fail
  go_at_call 10
  refine (make_is P Q (x, y, 0) M1.out _).mono ?_
  rintro _ w3 ⟨rfl, hg3⟩
  obtain ⟨G3, c10_0_3, c10_1_3, K3⟩ := fracKeep G2.out hg3
  clear hg3 K3
  clear HT2
  have HT3 : Hid (Tab w3) := Lib.hid (HT.out.grown G3.out)
  generalize w2.heap.size = B10 at *
  have m10_12 : B10 < w3.heap.size := cellBlock c10_0_3
  have l10_12 : ¬ B10 = w3.heap.size := blkNe c10_0_3
  have l12_10 : ¬ w3.heap.size = B10 := fun h => l10_12 h.symm
  go_wp2_with fail
  go_at_call 10
  refine (make_is (-P) (-Q) (x, y, 0) M2.out _).mono ?_
  rintro _ w4 ⟨rfl, hg4⟩
  obtain ⟨G4, c12_0_4, c12_1_4, K4⟩ := fracKeep G3.out hg4
  have c10_0_4 := grownSome K4.out c10_0_3
  have c10_1_4 := grownSome K4.out c10_1_3
  clear c10_0_3 c10_1_3
  clear hg4 K4
  clear HT3
  have HT4 : Hid (Tab w4) := Lib.hid (HT.out.grown G4.out)
  generalize w3.heap.size = B12 at *
  have m10_14 : B10 < w4.heap.size := cellBlock c10_0_4
  have l10_14 : ¬ B10 = w4.heap.size := blkNe c10_0_4
  have l14_10 : ¬ w4.heap.size = B10 := fun h => l10_14 h.symm
  have m12_14 : B12 < w4.heap.size := cellBlock c12_0_4
  have l12_14 : ¬ B12 = w4.heap.size := blkNe c12_0_4
  have l14_12 : ¬ w4.heap.size = B12 := fun h => l12_14 h.symm
  go_wp2_with fail
  go_at_call 10
  refine (make_is x y (x, y, 0) M3.out _).mono ?_
  rintro _ w5 ⟨rfl, hg5⟩
  obtain ⟨G5, c14_0_5, c14_1_5, K5⟩ := fracKeep G4.out hg5
  have c10_0_5 := grownSome K5.out c10_0_4
  have c10_1_5 := grownSome K5.out c10_1_4
  have c12_0_5 := grownSome K5.out c12_0_4
  have c12_1_5 := grownSome K5.out c12_1_4
  clear c10_0_4 c10_1_4 c12_0_4 c12_1_4
  clear hg5 K5
  clear HT4
  have HT5 : Hid (Tab w5) := Lib.hid (HT.out.grown G5.out)
  generalize w4.heap.size = B14 at *
  have m10_16 : B10 < w5.heap.size := cellBlock c10_0_5
  have l10_16 : ¬ B10 = w5.heap.size := blkNe c10_0_5
  have l16_10 : ¬ w5.heap.size = B10 := fun h => l10_16 h.symm
  have m12_16 : B12 < w5.heap.size := cellBlock c12_0_5
  have l12_16 : ¬ B12 = w5.heap.size := blkNe c12_0_5
  have l16_12 : ¬ w5.heap.size = B12 := fun h => l12_16 h.symm
  have m14_16 : B14 < w5.heap.size := cellBlock c14_0_5
  have l14_16 : ¬ B14 = w5.heap.size := blkNe c14_0_5
  have l16_14 : ¬ w5.heap.size = B14 := fun h => l14_16 h.symm
  go_wp2_with fail
  go_at_call 12
  refine (check_is' x y 0 M4.out _ (HT.out.grown (Grown.alloc G5.out _ _))).mono ?_
  rintro _ w6 ⟨rfl, hg6⟩
  obtain ⟨G6, c16_0_6, c16_1_6, K6⟩ := fracKeep G5.out hg6
  have c10_0_6 := grownSome K6.out c10_0_5
  have c10_1_6 := grownSome K6.out c10_1_5
  have c12_0_6 := grownSome K6.out c12_0_5
  have c12_1_6 := grownSome K6.out c12_1_5
  have c14_0_6 := grownSome K6.out c14_0_5
  have c14_1_6 := grownSome K6.out c14_1_5
  clear c10_0_5 c10_1_5 c12_0_5 c12_1_5 c14_0_5 c14_1_5
  clear hg6 K6
  clear HT5
  have HT6 : Hid (Tab w6) := Lib.hid (HT.out.grown G6.out)
  generalize w5.heap.size = B16 at *
  go_wp2_with fail
  go_ret
  exact ⟨rfl, G6.out⟩

theorem u64_nonneg (d : Int) : 0 ≤ IntKind.u64.wrap d := by rw [IntKind.wrap_u64]; exact Int.emod_nonneg _ (by omega)

theorem scales_true (n d k : Int) (hk : 0 ≤ k ∧ k ≤ 4294967295) (w : World) (hT : Tab w) :
    Calls Tryd.prog 8 #[.int .i64 n, .int .i64 d, .int .u32 k] w fun e w' => e = .returned (.bool true) ∧ Grown w w' := by
  have h1 := Int.tmod_lt_of_pos n (show (0 : Int) < 1073741824 by omega)
  have h2 := Int.tmod_lt_of_pos (-n) (show (0 : Int) < 1073741824 by omega)
  rw [Int.neg_tmod] at h2
  have h3 := Int.tmod_lt_of_pos (IntKind.u64.wrap d) (show (0 : Int) < 1073741824 by omega)
  have h4 := Int.tmod_nonneg (1073741824 : Int) (u64_nonneg d)
  have e2 : wrap64 (1 + wrap64 ((IntKind.u64.wrap d).tmod 1073741824)) = 1 + (IntKind.u64.wrap d).tmod 1073741824 := by unfold wrap64; omega
  obtain ⟨p, hp⟩ : ∃ p, n.tmod 1073741824 = p := ⟨_, rfl⟩
  obtain ⟨u, hu⟩ : ∃ u, (IntKind.u64.wrap d).tmod 1073741824 = u := ⟨_, rfl⟩
  rw [hp] at h1 h2
  rw [hu] at h3 h4
  obtain ⟨x, y, P, Q, m0, hP, hQ, m1, m2, m3, ok, v, bP, bQ, bx, bY⟩ := scale_facts (p := p) (q := 1 + u) (f := k + 1) (by omega) (by omega) (by omega)
  have wP : IntKind.i64.wrap P = P := IntWalk.i64_in P (by omega)
  have wQ : IntKind.i64.wrap Q = Q := IntWalk.i64_in Q (by omega)
  have wP' : IntKind.i64.wrap (-P) = -P := IntWalk.i64_in (-P) (by omega)
  have wQ' : IntKind.i64.wrap (-Q) = -Q := IntWalk.i64_in (-Q) (by omega)
  refine scales_walk n d k p (1 + u) (k + 1) P Q x y (IntKind.i64.wrap (x * (1 + u))) w hT (Lib.hid hp) (Lib.hid (by rw [e2, hu])) hk (Lib.hid rfl) (Lib.hid ?_) (Lib.hid ⟨rfl, by rw [v]⟩) (by omega) (by omega) (Lib.hid m0) (Lib.hid m1) (Lib.hid m2) (Lib.hid m3) (Lib.hid (checkS_yes ok))
  rw [Int.neg_mul, Int.neg_mul, hP, hQ]
  exact ⟨wP, wQ, wP', wQ', wP', wQ'⟩

end Go.Proofs.YtiibpdameldblaaDoor
