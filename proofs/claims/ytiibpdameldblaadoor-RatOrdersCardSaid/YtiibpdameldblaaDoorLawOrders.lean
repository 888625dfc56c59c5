/- RatOrders' walk: the program and the reference answer the same. -/
import Derived.Test.YtiibpdameldblaaDoorWorks
import Derived.Test.YtiibpdameldblaaDoorPairs
import Derived.Test.YtiibpdameldblaaDoorLawSums
import Derived.Deep.DeepCutAuto
namespace Go.Proofs.YtiibpdameldblaaDoor
open Go Go.RowKit

theorem refmin_is (a b c d : Int) (r : Int × Int × Int) (h : minF a b c d = r) (w : World) : Calls Tryd.prog 27 #[.agg #[.int .i64 a, .int .i64 b], .agg #[.int .i64 c, .int .i64 d]] w (Frac r w) := h ▸ refmin_any a b c d w
theorem refmax_is (a b c d : Int) (r : Int × Int × Int) (h : maxF a b c d = r) (w : World) : Calls Tryd.prog 29 #[.agg #[.int .i64 a, .int .i64 b], .agg #[.int .i64 c, .int .i64 d]] w (Frac r w) := h ▸ refmax_any a b c d w
theorem refceil_is (a b : Int) (r : Int × Int) (w : World) (h : ceilF a b = r) : Calls Tryd.prog 33 #[.agg #[.int .i64 a, .int .i64 b]] w (Two r w) := h ▸ refceil_any a b w

set_option maxRecDepth 100000 in
set_option maxHeartbeats 8000000 in
theorem orders_true (a b c d : Int) (w : World) (hT : Tab w) :
    Calls Tryd.prog 5 #[.agg #[.int .i64 a, .int .i64 b], .agg #[.int .i64 c, .int .i64 d]] w fun e w' => e = .returned (.bool true) ∧ Grown w w' := by
  have HT := Lib.hid hT
  clear hT
  obtain ⟨⟨p, q⟩, h1⟩ : ∃ r, ofS a b = r := ⟨_, rfl⟩
  obtain ⟨⟨r, s⟩, h2⟩ : ∃ r, ofS c d = r := ⟨_, rfl⟩
  have H1 := Lib.hid h1
  have H2 := Lib.hid h2
  clear h1 h2
  have hi : ∀ k : Int, 0 ≤ k → k < 4 → ∃ x1 x2 x3 x4 : Int, ∀ w, (Instr.index 34 (.agg #[.int .i64 a, .int .i64 b, .int .i64 c, .int .i64 d, .int .i64 p, .int .i64 q, .int .i64 r, .int .i64 s, .int .i64 a, .int .i64 b, .int .i64 r, .int .i64 s, .int .i64 p, .int .i64 q, .int .i64 p, .int .i64 q]) (.int .i64 k)).run Tryd.prog w = .ok (.agg #[.int .i64 x1, .int .i64 x2, .int .i64 x3, .int .i64 x4]) w := by
    intro k h0 h4
    obtain rfl | rfl | rfl | rfl : k = 0 ∨ k = 1 ∨ k = 2 ∨ k = 3 := by omega
    · exact ⟨a, b, c, d, fun _ => by kernel_rfl⟩
    · exact ⟨p, q, r, s, fun _ => by kernel_rfl⟩
    · exact ⟨a, b, r, s, fun _ => by kernel_rfl⟩
    · exact ⟨p, q, p, q, fun _ => by kernel_rfl⟩
  have HI := Lib.hid hi
  clear hi
  go_enter Tryd.func5, Tryd.ntmps5
  go_wp2_with fail
  go_at_call 15
  refine (pairs_any a b c d p q r s _ H1 H2).mono ?_
  rintro _ wp ⟨rfl, hgp⟩
  have GP : Hid (Grown w wp) := Lib.hid (grownTrans (by go_grown) hgp)
  clear hgp
  go_wp2_with fail
  go_loopw [30] (fun i wr => ∃ k : Int, 0 ≤ k ∧ k ≤ 4 ∧ i = .int .i64 k ∧ Hid (Grown w wr)) (fun i _ => 4 - (intOf i).toNat)
  case atStart => exact ⟨0, by omega, by omega, rfl, GP⟩
  case round =>
    obtain ⟨k, hk0, hk4, rfl, G0⟩ := hrel
    by_cases hk : k < 4
    · -- a round
      obtain ⟨x1, x2, x3, x4, hx⟩ := HI.out k hk0 hk
      obtain ⟨⟨s0, e0⟩, hs0⟩ : ∃ r, cmpF x1 x2 x3 x4 = r := ⟨_, rfl⟩
      have HS0 := Lib.hid hs0
      clear hs0
      obtain ⟨⟨s1, t1, e1⟩, hs1⟩ : ∃ r, minF x1 x2 x3 x4 = r := ⟨_, rfl⟩
      have HS1 := Lib.hid hs1
      clear hs1
      obtain ⟨⟨s2, t2, e2⟩, hs2⟩ : ∃ r, maxF x1 x2 x3 x4 = r := ⟨_, rfl⟩
      have HS2 := Lib.hid hs2
      clear hs2
      obtain ⟨⟨s3, e3⟩, hs3⟩ : ∃ r, floorF x1 x2 = r := ⟨_, rfl⟩
      have HS3 := Lib.hid hs3
      clear hs3
      obtain ⟨⟨s4, e4⟩, hs4⟩ : ∃ r, ceilF x1 x2 = r := ⟨_, rfl⟩
      have HS4 := Lib.hid hs4
      clear hs4
      have HT0 : Hid (Tab wr) := Lib.hid (HT.out.grown G0.out)
      go_wp2_with fail
      go_at_call 24
      refine (cmp_is' x1 x2 x3 x4 (s0, e0) HS0.out _ (HT.out.grown (Grown.alloc G0.out _ _))).mono ?_
      rintro _ w1 ⟨rfl, hg1⟩
      obtain ⟨G1, cK_0_1, cK_1_1, cK_2_1, cK_3_1, K1⟩ := pairKeep G0.out hg1
      clear hg1 K1
      have HT1 : Hid (Tab w1) := Lib.hid (HT.out.grown G1.out)
      generalize wr.heap.size = BK at *
      go_wp2_with fail
      go_at_call 25
      refine (refcmp_is x1 x2 x3 x4 (s0, e0) _ HS0.out).mono ?_
      rintro _ w2 ⟨rfl, hg2⟩
      have G2 : Hid (Grown w w2) := Lib.hid (grownTrans G1.out hg2)
      have K2 := Lib.hid hg2
      have cK_0_2 := grownSome K2.out cK_0_1
      have cK_1_2 := grownSome K2.out cK_1_1
      have cK_2_2 := grownSome K2.out cK_2_1
      have cK_3_2 := grownSome K2.out cK_3_1
      clear cK_0_1 cK_1_1 cK_2_1 cK_3_1
      clear hg2 K2
      clear HT1
      have HT2 : Hid (Tab w2) := Lib.hid (HT.out.grown G2.out)
      go_wp2_with fail
      go_at_call 26
      refine (min_is x1 x2 x3 x4 (s1, t1, e1) HS1.out _ HT2.out).mono ?_
      rintro _ w3 ⟨rfl, hg3⟩
      have G3 : Hid (Grown w w3) := Lib.hid (grownTrans G2.out hg3)
      have K3 := Lib.hid hg3
      have cK_0_3 := grownSome K3.out cK_0_2
      have cK_1_3 := grownSome K3.out cK_1_2
      have cK_2_3 := grownSome K3.out cK_2_2
      have cK_3_3 := grownSome K3.out cK_3_2
      clear cK_0_2 cK_1_2 cK_2_2 cK_3_2
      clear hg3 K3
      clear HT2
      have HT3 : Hid (Tab w3) := Lib.hid (HT.out.grown G3.out)
      have mK_P1 : BK < w3.heap.size := cellBlock cK_0_3
      have lK_P1 : ¬ BK = w3.heap.size := blkNe cK_0_3
      have lP1_K : ¬ w3.heap.size = BK := fun h => lK_P1 h.symm
      go_wp2_with fail
      go_at_call 27
      refine (refmin_is x1 x2 x3 x4 (s1, t1, e1) HS1.out _).mono ?_
      rintro _ w4 ⟨rfl, hg4⟩
      obtain ⟨G4, cP1_0_4, cP1_1_4, K4⟩ := fracKeep G3.out hg4
      have cK_0_4 := grownSome K4.out cK_0_3
      have cK_1_4 := grownSome K4.out cK_1_3
      have cK_2_4 := grownSome K4.out cK_2_3
      have cK_3_4 := grownSome K4.out cK_3_3
      clear cK_0_3 cK_1_3 cK_2_3 cK_3_3
      clear hg4 K4
      clear HT3
      have HT4 : Hid (Tab w4) := Lib.hid (HT.out.grown G4.out)
      generalize w3.heap.size = BP1 at *
      have mK_R1 : BK < w4.heap.size := cellBlock cK_0_4
      have lK_R1 : ¬ BK = w4.heap.size := blkNe cK_0_4
      have lR1_K : ¬ w4.heap.size = BK := fun h => lK_R1 h.symm
      have mP1_R1 : BP1 < w4.heap.size := cellBlock cP1_0_4
      have lP1_R1 : ¬ BP1 = w4.heap.size := blkNe cP1_0_4
      have lR1_P1 : ¬ w4.heap.size = BP1 := fun h => lP1_R1 h.symm
      go_wp2_with fail
      go_at_call 28
      refine (max_is x1 x2 x3 x4 (s2, t2, e2) HS2.out _ (HT.out.grown (Grown.alloc G4.out _ _))).mono ?_
      rintro _ w5 ⟨rfl, hg5⟩
      obtain ⟨G5, cR1_0_5, cR1_1_5, K5⟩ := fracKeep G4.out hg5
      have cK_0_5 := grownSome K5.out cK_0_4
      have cK_1_5 := grownSome K5.out cK_1_4
      have cK_2_5 := grownSome K5.out cK_2_4
      have cK_3_5 := grownSome K5.out cK_3_4
      have cP1_0_5 := grownSome K5.out cP1_0_4
      have cP1_1_5 := grownSome K5.out cP1_1_4
      clear cK_0_4 cK_1_4 cK_2_4 cK_3_4 cP1_0_4 cP1_1_4
      clear hg5 K5
      clear HT4
      have HT5 : Hid (Tab w5) := Lib.hid (HT.out.grown G5.out)
      generalize w4.heap.size = BR1 at *
      have mK_P2 : BK < w5.heap.size := cellBlock cK_0_5
      have lK_P2 : ¬ BK = w5.heap.size := blkNe cK_0_5
      have lP2_K : ¬ w5.heap.size = BK := fun h => lK_P2 h.symm
      have mP1_P2 : BP1 < w5.heap.size := cellBlock cP1_0_5
      have lP1_P2 : ¬ BP1 = w5.heap.size := blkNe cP1_0_5
      have lP2_P1 : ¬ w5.heap.size = BP1 := fun h => lP1_P2 h.symm
      have mR1_P2 : BR1 < w5.heap.size := cellBlock cR1_0_5
      have lR1_P2 : ¬ BR1 = w5.heap.size := blkNe cR1_0_5
      have lP2_R1 : ¬ w5.heap.size = BR1 := fun h => lR1_P2 h.symm
      go_wp2_with fail
      go_at_call 29
      refine (refmax_is x1 x2 x3 x4 (s2, t2, e2) HS2.out _).mono ?_
      rintro _ w6 ⟨rfl, hg6⟩
      obtain ⟨G6, cP2_0_6, cP2_1_6, K6⟩ := fracKeep G5.out hg6
      have cK_0_6 := grownSome K6.out cK_0_5
      have cK_1_6 := grownSome K6.out cK_1_5
      have cK_2_6 := grownSome K6.out cK_2_5
      have cK_3_6 := grownSome K6.out cK_3_5
      have cP1_0_6 := grownSome K6.out cP1_0_5
      have cP1_1_6 := grownSome K6.out cP1_1_5
      have cR1_0_6 := grownSome K6.out cR1_0_5
      have cR1_1_6 := grownSome K6.out cR1_1_5
      clear cK_0_5 cK_1_5 cK_2_5 cK_3_5 cP1_0_5 cP1_1_5 cR1_0_5 cR1_1_5
      clear hg6 K6
      clear HT5
      have HT6 : Hid (Tab w6) := Lib.hid (HT.out.grown G6.out)
      generalize w5.heap.size = BP2 at *
      have mK_R2 : BK < w6.heap.size := cellBlock cK_0_6
      have lK_R2 : ¬ BK = w6.heap.size := blkNe cK_0_6
      have lR2_K : ¬ w6.heap.size = BK := fun h => lK_R2 h.symm
      have mP1_R2 : BP1 < w6.heap.size := cellBlock cP1_0_6
      have lP1_R2 : ¬ BP1 = w6.heap.size := blkNe cP1_0_6
      have lR2_P1 : ¬ w6.heap.size = BP1 := fun h => lP1_R2 h.symm
      have mR1_R2 : BR1 < w6.heap.size := cellBlock cR1_0_6
      have lR1_R2 : ¬ BR1 = w6.heap.size := blkNe cR1_0_6
      have lR2_R1 : ¬ w6.heap.size = BR1 := fun h => lR1_R2 h.symm
      have mP2_R2 : BP2 < w6.heap.size := cellBlock cP2_0_6
      have lP2_R2 : ¬ BP2 = w6.heap.size := blkNe cP2_0_6
      have lR2_P2 : ¬ w6.heap.size = BP2 := fun h => lP2_R2 h.symm
      go_wp2_with fail
      go_at_call 30
      refine (floor_is x1 x2 (s3, e3) HS3.out _ (HT.out.grown (Grown.alloc G6.out _ _))).mono ?_
      rintro _ w7 ⟨rfl, hg7⟩
      obtain ⟨G7, cR2_0_7, cR2_1_7, K7⟩ := fracKeep G6.out hg7
      have cK_0_7 := grownSome K7.out cK_0_6
      have cK_1_7 := grownSome K7.out cK_1_6
      have cK_2_7 := grownSome K7.out cK_2_6
      have cK_3_7 := grownSome K7.out cK_3_6
      have cP1_0_7 := grownSome K7.out cP1_0_6
      have cP1_1_7 := grownSome K7.out cP1_1_6
      have cR1_0_7 := grownSome K7.out cR1_0_6
      have cR1_1_7 := grownSome K7.out cR1_1_6
      have cP2_0_7 := grownSome K7.out cP2_0_6
      have cP2_1_7 := grownSome K7.out cP2_1_6
      clear cK_0_6 cK_1_6 cK_2_6 cK_3_6 cP1_0_6 cP1_1_6 cR1_0_6 cR1_1_6 cP2_0_6 cP2_1_6
      clear hg7 K7
      clear HT6
      have HT7 : Hid (Tab w7) := Lib.hid (HT.out.grown G7.out)
      generalize w6.heap.size = BR2 at *
      go_wp2_with fail
      go_at_call 31
      refine (reffloor_is x1 x2 (s3, e3) _ HS3.out).mono ?_
      rintro _ w8 ⟨rfl, hg8⟩
      have G8 : Hid (Grown w w8) := Lib.hid (grownTrans G7.out hg8)
      have K8 := Lib.hid hg8
      have cK_0_8 := grownSome K8.out cK_0_7
      have cK_1_8 := grownSome K8.out cK_1_7
      have cK_2_8 := grownSome K8.out cK_2_7
      have cK_3_8 := grownSome K8.out cK_3_7
      have cP1_0_8 := grownSome K8.out cP1_0_7
      have cP1_1_8 := grownSome K8.out cP1_1_7
      have cR1_0_8 := grownSome K8.out cR1_0_7
      have cR1_1_8 := grownSome K8.out cR1_1_7
      have cP2_0_8 := grownSome K8.out cP2_0_7
      have cP2_1_8 := grownSome K8.out cP2_1_7
      have cR2_0_8 := grownSome K8.out cR2_0_7
      have cR2_1_8 := grownSome K8.out cR2_1_7
      clear cK_0_7 cK_1_7 cK_2_7 cK_3_7 cP1_0_7 cP1_1_7 cR1_0_7 cR1_1_7 cP2_0_7 cP2_1_7 cR2_0_7 cR2_1_7
      clear hg8 K8
      clear HT7
      have HT8 : Hid (Tab w8) := Lib.hid (HT.out.grown G8.out)
      go_wp2_with fail
      go_at_call 32
      refine (ceil_is x1 x2 (s4, e4) HS4.out _ HT8.out).mono ?_
      rintro _ w9 ⟨rfl, hg9⟩
      have G9 : Hid (Grown w w9) := Lib.hid (grownTrans G8.out hg9)
      have K9 := Lib.hid hg9
      have cK_0_9 := grownSome K9.out cK_0_8
      have cK_1_9 := grownSome K9.out cK_1_8
      have cK_2_9 := grownSome K9.out cK_2_8
      have cK_3_9 := grownSome K9.out cK_3_8
      have cP1_0_9 := grownSome K9.out cP1_0_8
      have cP1_1_9 := grownSome K9.out cP1_1_8
      have cR1_0_9 := grownSome K9.out cR1_0_8
      have cR1_1_9 := grownSome K9.out cR1_1_8
      have cP2_0_9 := grownSome K9.out cP2_0_8
      have cP2_1_9 := grownSome K9.out cP2_1_8
      have cR2_0_9 := grownSome K9.out cR2_0_8
      have cR2_1_9 := grownSome K9.out cR2_1_8
      clear cK_0_8 cK_1_8 cK_2_8 cK_3_8 cP1_0_8 cP1_1_8 cR1_0_8 cR1_1_8 cP2_0_8 cP2_1_8 cR2_0_8 cR2_1_8
      clear hg9 K9
      clear HT8
      have HT9 : Hid (Tab w9) := Lib.hid (HT.out.grown G9.out)
      go_wp2_with fail
      go_at_call 33
      refine (refceil_is x1 x2 (s4, e4) _ HS4.out).mono ?_
      rintro _ w10 ⟨rfl, hg10⟩
      have G10 : Hid (Grown w w10) := Lib.hid (grownTrans G9.out hg10)
      have K10 := Lib.hid hg10
      have cK_0_10 := grownSome K10.out cK_0_9
      have cK_1_10 := grownSome K10.out cK_1_9
      have cK_2_10 := grownSome K10.out cK_2_9
      have cK_3_10 := grownSome K10.out cK_3_9
      have cP1_0_10 := grownSome K10.out cP1_0_9
      have cP1_1_10 := grownSome K10.out cP1_1_9
      have cR1_0_10 := grownSome K10.out cR1_0_9
      have cR1_1_10 := grownSome K10.out cR1_1_9
      have cP2_0_10 := grownSome K10.out cP2_0_9
      have cP2_1_10 := grownSome K10.out cP2_1_9
      have cR2_0_10 := grownSome K10.out cR2_0_9
      have cR2_1_10 := grownSome K10.out cR2_1_9
      clear cK_0_9 cK_1_9 cK_2_9 cK_3_9 cP1_0_9 cP1_1_9 cR1_0_9 cR1_1_9 cP2_0_9 cP2_1_9 cR2_0_9 cR2_1_9
      clear hg10 K10
      clear HT9
      have HT10 : Hid (Tab w10) := Lib.hid (HT.out.grown G10.out)
      go_wp2
      go_roundw
      case rel => exact ⟨k + 1, by omega, by omega, rfl, Lib.hid G10.out⟩
      case measure => simp [intOf]; omega
    · -- the end
      obtain rfl : k = 4 := by omega
      go_wp2_with (go_at_call 14; ((with_reducible refine (works_true _ (HT.out.grown G0.out)).mono ?_); rintro e w1 ⟨rfl, hg1⟩))
      go_ret
      exact ⟨rfl, grownTrans G0.out hg1⟩

end Go.Proofs.YtiibpdameldblaaDoor
