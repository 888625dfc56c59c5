/- The chapter's closed examples: 'works' of the law's package answers true. -/
import Derived.Test.YtiibpdameldblaaDoorSteps
namespace Go.Proofs.YtiibpdameldblaaDoor
open Go Go.RowKit

set_option maxRecDepth 100000 in
set_option maxHeartbeats 4000000 in
theorem works_true (w : World) (hT : Tab w) : Calls Tryd.prog 14 #[] w fun e w' => e = .returned (.bool true) ∧ Grown w w' := by
  have HT := Lib.hid hT
  clear hT
  go_enter Tryd.func14, Tryd.ntmps14
  have HT0 := HT
  have G0 : Hid (Grown w w) := Lib.hid (Grown.refl _)
  go_wp2_with fail
  go_at_call 10
  refine (make_is 6 (-4) (-3, 2, 0) (by kernel_rfl) _).mono ?_
  rintro _ w1 ⟨rfl, hg1⟩
  have G1 : Hid (Grown w w1) := Lib.hid (grownTrans G0.out hg1)
  have K1 := Lib.hid hg1
  clear hg1 K1
  have HT1 : Hid (Tab w1) := Lib.hid (HT.out.grown G1.out)
  go_wp2_with fail
  go_at_call 10
  refine (make_is 0 (-7) (0, 1, 0) (by kernel_rfl) _).mono ?_
  rintro _ w2 ⟨rfl, hg2⟩
  obtain ⟨G2, c1_0_2, c1_1_2, K2⟩ := fracKeep G1.out hg2
  clear hg2 K2
  clear HT1
  have HT2 : Hid (Tab w2) := Lib.hid (HT.out.grown G2.out)
  generalize w1.heap.size = B1 at *
  have m1_3 : B1 < w2.heap.size := cellBlock c1_0_2
  have l1_3 : ¬ B1 = w2.heap.size := blkNe c1_0_2
  have l3_1 : ¬ w2.heap.size = B1 := fun h => l1_3 h.symm
  go_wp2_with fail
  go_at_call 10
  refine (make_is 1 0 (0, 0, 2) (by kernel_rfl) _).mono ?_
  rintro _ w3 ⟨rfl, hg3⟩
  obtain ⟨G3, c3_0_3, c3_1_3, K3⟩ := fracKeep G2.out hg3
  have c1_0_3 := grownSome K3.out c1_0_2
  have c1_1_3 := grownSome K3.out c1_1_2
  clear c1_0_2 c1_1_2
  clear hg3 K3
  clear HT2
  have HT3 : Hid (Tab w3) := Lib.hid (HT.out.grown G3.out)
  generalize w2.heap.size = B3 at *
  have m1_5 : B1 < w3.heap.size := cellBlock c1_0_3
  have l1_5 : ¬ B1 = w3.heap.size := blkNe c1_0_3
  have l5_1 : ¬ w3.heap.size = B1 := fun h => l1_5 h.symm
  have m3_5 : B3 < w3.heap.size := cellBlock c3_0_3
  have l3_5 : ¬ B3 = w3.heap.size := blkNe c3_0_3
  have l5_3 : ¬ w3.heap.size = B3 := fun h => l3_5 h.symm
  go_wp2_with fail
  go_at_call 10
  refine (make_is 2147483648 2 (1073741824, 1, 0) (by kernel_rfl) _).mono ?_
  rintro _ w4 ⟨rfl, hg4⟩
  obtain ⟨G4, c5_0_4, c5_1_4, K4⟩ := fracKeep G3.out hg4
  have c1_0_4 := grownSome K4.out c1_0_3
  have c1_1_4 := grownSome K4.out c1_1_3
  have c3_0_4 := grownSome K4.out c3_0_3
  have c3_1_4 := grownSome K4.out c3_1_3
  clear c1_0_3 c1_1_3 c3_0_3 c3_1_3
  clear hg4 K4
  clear HT3
  have HT4 : Hid (Tab w4) := Lib.hid (HT.out.grown G4.out)
  generalize w3.heap.size = B5 at *
  have m1_7 : B1 < w4.heap.size := cellBlock c1_0_4
  have l1_7 : ¬ B1 = w4.heap.size := blkNe c1_0_4
  have l7_1 : ¬ w4.heap.size = B1 := fun h => l1_7 h.symm
  have m3_7 : B3 < w4.heap.size := cellBlock c3_0_4
  have l3_7 : ¬ B3 = w4.heap.size := blkNe c3_0_4
  have l7_3 : ¬ w4.heap.size = B3 := fun h => l3_7 h.symm
  have m5_7 : B5 < w4.heap.size := cellBlock c5_0_4
  have l5_7 : ¬ B5 = w4.heap.size := blkNe c5_0_4
  have l7_5 : ¬ w4.heap.size = B5 := fun h => l5_7 h.symm
  clear c5_0_4 c5_1_4
  go_wp2_with fail
  go_at_call 10
  refine (make_is 1073741825 1 (0, 0, 6) (by kernel_rfl) _).mono ?_
  rintro _ w5 ⟨rfl, hg5⟩
  obtain ⟨G5, c7_0_5, c7_1_5, K5⟩ := fracKeep G4.out hg5
  have c1_0_5 := grownSome K5.out c1_0_4
  have c1_1_5 := grownSome K5.out c1_1_4
  have c3_0_5 := grownSome K5.out c3_0_4
  have c3_1_5 := grownSome K5.out c3_1_4
  clear c1_0_4 c1_1_4 c3_0_4 c3_1_4
  clear hg5 K5
  clear HT4
  have HT5 : Hid (Tab w5) := Lib.hid (HT.out.grown G5.out)
  generalize w4.heap.size = B7 at *
  have m1_9 : B1 < w5.heap.size := cellBlock c1_0_5
  have l1_9 : ¬ B1 = w5.heap.size := blkNe c1_0_5
  have l9_1 : ¬ w5.heap.size = B1 := fun h => l1_9 h.symm
  have m3_9 : B3 < w5.heap.size := cellBlock c3_0_5
  have l3_9 : ¬ B3 = w5.heap.size := blkNe c3_0_5
  have l9_3 : ¬ w5.heap.size = B3 := fun h => l3_9 h.symm
  have m7_9 : B7 < w5.heap.size := cellBlock c7_0_5
  have l7_9 : ¬ B7 = w5.heap.size := blkNe c7_0_5
  have l9_7 : ¬ w5.heap.size = B7 := fun h => l7_9 h.symm
  go_wp2_with fail
  go_at_call 10
  refine (make_is 4611686018427387904 4611686018427387904 (1, 1, 0) (by kernel_rfl) _).mono ?_
  rintro _ w6 ⟨rfl, hg6⟩
  obtain ⟨G6, c9_0_6, c9_1_6, K6⟩ := fracKeep G5.out hg6
  have c1_0_6 := grownSome K6.out c1_0_5
  have c1_1_6 := grownSome K6.out c1_1_5
  have c3_0_6 := grownSome K6.out c3_0_5
  have c3_1_6 := grownSome K6.out c3_1_5
  have c7_0_6 := grownSome K6.out c7_0_5
  have c7_1_6 := grownSome K6.out c7_1_5
  clear c1_0_5 c1_1_5 c3_0_5 c3_1_5 c7_0_5 c7_1_5
  clear hg6 K6
  clear HT5
  have HT6 : Hid (Tab w6) := Lib.hid (HT.out.grown G6.out)
  generalize w5.heap.size = B9 at *
  have m1_11 : B1 < w6.heap.size := cellBlock c1_0_6
  have l1_11 : ¬ B1 = w6.heap.size := blkNe c1_0_6
  have l11_1 : ¬ w6.heap.size = B1 := fun h => l1_11 h.symm
  have m3_11 : B3 < w6.heap.size := cellBlock c3_0_6
  have l3_11 : ¬ B3 = w6.heap.size := blkNe c3_0_6
  have l11_3 : ¬ w6.heap.size = B3 := fun h => l3_11 h.symm
  have m7_11 : B7 < w6.heap.size := cellBlock c7_0_6
  have l7_11 : ¬ B7 = w6.heap.size := blkNe c7_0_6
  have l11_7 : ¬ w6.heap.size = B7 := fun h => l7_11 h.symm
  have m9_11 : B9 < w6.heap.size := cellBlock c9_0_6
  have l9_11 : ¬ B9 = w6.heap.size := blkNe c9_0_6
  have l11_9 : ¬ w6.heap.size = B9 := fun h => l9_11 h.symm
  clear c9_0_6 c9_1_6
  go_wp2_with fail
  go_at_call 36
  refine (is_yes (-3) 2 _).mono ?_
  rintro _ w7 ⟨rfl, hg7⟩
  obtain ⟨G7, c11_0_7, c11_1_7, K7⟩ := fracKeep G6.out hg7
  have c1_0_7 := grownSome K7.out c1_0_6
  have c1_1_7 := grownSome K7.out c1_1_6
  have c3_0_7 := grownSome K7.out c3_0_6
  have c3_1_7 := grownSome K7.out c3_1_6
  have c7_0_7 := grownSome K7.out c7_0_6
  have c7_1_7 := grownSome K7.out c7_1_6
  clear c1_0_6 c1_1_6 c3_0_6 c3_1_6 c7_0_6 c7_1_6
  clear hg7 K7
  clear HT6
  have HT7 : Hid (Tab w7) := Lib.hid (HT.out.grown G7.out)
  generalize w6.heap.size = B11 at *
  clear c1_0_7 c1_1_7
  go_wp2_with fail
  go_at_call 36
  refine (is_yes 0 1 _).mono ?_
  rintro _ w8 ⟨rfl, hg8⟩
  have G8 : Hid (Grown w w8) := Lib.hid (grownTrans G7.out hg8)
  have K8 := Lib.hid hg8
  have c3_0_8 := grownSome K8.out c3_0_7
  have c3_1_8 := grownSome K8.out c3_1_7
  have c7_0_8 := grownSome K8.out c7_0_7
  have c7_1_8 := grownSome K8.out c7_1_7
  have c11_0_8 := grownSome K8.out c11_0_7
  have c11_1_8 := grownSome K8.out c11_1_7
  clear c3_0_7 c3_1_7 c7_0_7 c7_1_7 c11_0_7 c11_1_7
  clear hg8 K8
  clear HT7
  have HT8 : Hid (Tab w8) := Lib.hid (HT.out.grown G8.out)
  clear c3_0_8 c3_1_8
  go_wp2_with fail
  go_at_call 36
  refine (is_yes 1073741824 1 _).mono ?_
  rintro _ w9 ⟨rfl, hg9⟩
  have G9 : Hid (Grown w w9) := Lib.hid (grownTrans G8.out hg9)
  have K9 := Lib.hid hg9
  have c7_0_9 := grownSome K9.out c7_0_8
  have c7_1_9 := grownSome K9.out c7_1_8
  have c11_0_9 := grownSome K9.out c11_0_8
  have c11_1_9 := grownSome K9.out c11_1_8
  clear c7_0_8 c7_1_8 c11_0_8 c11_1_8
  clear hg9 K9
  clear HT8
  have HT9 : Hid (Tab w9) := Lib.hid (HT.out.grown G9.out)
  clear c7_0_9 c7_1_9
  go_wp2_with fail
  go_at_call 36
  refine (is_yes 1 1 _).mono ?_
  rintro _ w10 ⟨rfl, hg10⟩
  have G10 : Hid (Grown w w10) := Lib.hid (grownTrans G9.out hg10)
  have K10 := Lib.hid hg10
  have c11_0_10 := grownSome K10.out c11_0_9
  have c11_1_10 := grownSome K10.out c11_1_9
  clear c11_0_9 c11_1_9
  clear hg10 K10
  clear HT9
  have HT10 : Hid (Tab w10) := Lib.hid (HT.out.grown G10.out)
  clear c11_0_10 c11_1_10
  go_wp2_with fail
  go_at_call 35
  refine (of_frac 2 4 _).mono ?_
  rintro _ w11 ⟨rfl, hg11⟩
  have G11 : Hid (Grown w w11) := Lib.hid (grownTrans G10.out hg11)
  have K11 := Lib.hid hg11
  clear hg11 K11
  clear HT10
  have HT11 : Hid (Tab w11) := Lib.hid (HT.out.grown G11.out)
  go_wp2_with fail
  go_at_call 12
  refine (check_is' 2 4 120 (by kernel_rfl) _ HT11.out).mono ?_
  rintro _ w12 ⟨rfl, hg12⟩
  have G12 : Hid (Grown w w12) := Lib.hid (grownTrans G11.out hg12)
  have K12 := Lib.hid hg12
  clear hg12 K12
  clear HT11
  have HT12 : Hid (Tab w12) := Lib.hid (HT.out.grown G12.out)
  go_wp2_with fail
  go_at_call 35
  refine (of_frac 1 2 _).mono ?_
  rintro _ w13 ⟨rfl, hg13⟩
  have G13 : Hid (Grown w w13) := Lib.hid (grownTrans G12.out hg13)
  have K13 := Lib.hid hg13
  clear hg13 K13
  clear HT12
  have HT13 : Hid (Tab w13) := Lib.hid (HT.out.grown G13.out)
  go_wp2_with fail
  go_at_call 35
  refine (of_frac 1 3 _).mono ?_
  rintro _ w14 ⟨rfl, hg14⟩
  have G14 : Hid (Grown w w14) := Lib.hid (grownTrans G13.out hg14)
  have K14 := Lib.hid hg14
  clear hg14 K14
  clear HT13
  have HT14 : Hid (Tab w14) := Lib.hid (HT.out.grown G14.out)
  go_wp2_with fail
  go_at_call 16
  refine (add_is 1 2 1 3 (5, 6, 0) (by kernel_rfl) _ HT14.out).mono ?_
  rintro _ w15 ⟨rfl, hg15⟩
  have G15 : Hid (Grown w w15) := Lib.hid (grownTrans G14.out hg15)
  have K15 := Lib.hid hg15
  clear hg15 K15
  clear HT14
  have HT15 : Hid (Tab w15) := Lib.hid (HT.out.grown G15.out)
  go_wp2_with fail
  go_at_call 35
  refine (of_frac 1 2 _).mono ?_
  rintro _ w16 ⟨rfl, hg16⟩
  obtain ⟨G16, c14_0_16, c14_1_16, K16⟩ := fracKeep G15.out hg16
  clear hg16 K16
  clear HT15
  have HT16 : Hid (Tab w16) := Lib.hid (HT.out.grown G16.out)
  generalize w15.heap.size = B14 at *
  go_wp2_with fail
  go_at_call 35
  refine (of_frac 1 2 _).mono ?_
  rintro _ w17 ⟨rfl, hg17⟩
  have G17 : Hid (Grown w w17) := Lib.hid (grownTrans G16.out hg17)
  have K17 := Lib.hid hg17
  have c14_0_17 := grownSome K17.out c14_0_16
  have c14_1_17 := grownSome K17.out c14_1_16
  clear c14_0_16 c14_1_16
  clear hg17 K17
  clear HT16
  have HT17 : Hid (Tab w17) := Lib.hid (HT.out.grown G17.out)
  go_wp2_with fail
  go_at_call 18
  refine (sub_is 1 2 1 2 (0, 1, 0) (by kernel_rfl) _ HT17.out).mono ?_
  rintro _ w18 ⟨rfl, hg18⟩
  have G18 : Hid (Grown w w18) := Lib.hid (grownTrans G17.out hg18)
  have K18 := Lib.hid hg18
  have c14_0_18 := grownSome K18.out c14_0_17
  have c14_1_18 := grownSome K18.out c14_1_17
  clear c14_0_17 c14_1_17
  clear hg18 K18
  clear HT17
  have HT18 : Hid (Tab w18) := Lib.hid (HT.out.grown G18.out)
  have m14_16 : B14 < w18.heap.size := cellBlock c14_0_18
  have l14_16 : ¬ B14 = w18.heap.size := blkNe c14_0_18
  have l16_14 : ¬ w18.heap.size = B14 := fun h => l14_16 h.symm
  go_wp2_with fail
  go_at_call 35
  refine (of_frac 2 3 _).mono ?_
  rintro _ w19 ⟨rfl, hg19⟩
  obtain ⟨G19, c16_0_19, c16_1_19, K19⟩ := fracKeep G18.out hg19
  have c14_0_19 := grownSome K19.out c14_0_18
  have c14_1_19 := grownSome K19.out c14_1_18
  clear c14_0_18 c14_1_18
  clear hg19 K19
  clear HT18
  have HT19 : Hid (Tab w19) := Lib.hid (HT.out.grown G19.out)
  generalize w18.heap.size = B16 at *
  go_wp2_with fail
  go_at_call 35
  refine (of_frac 3 4 _).mono ?_
  rintro _ w20 ⟨rfl, hg20⟩
  have G20 : Hid (Grown w w20) := Lib.hid (grownTrans G19.out hg20)
  have K20 := Lib.hid hg20
  have c14_0_20 := grownSome K20.out c14_0_19
  have c14_1_20 := grownSome K20.out c14_1_19
  have c16_0_20 := grownSome K20.out c16_0_19
  have c16_1_20 := grownSome K20.out c16_1_19
  clear c14_0_19 c14_1_19 c16_0_19 c16_1_19
  clear hg20 K20
  clear HT19
  have HT20 : Hid (Tab w20) := Lib.hid (HT.out.grown G20.out)
  go_wp2_with fail
  go_at_call 20
  refine (mul_is 2 3 3 4 (1, 2, 0) (by kernel_rfl) _ HT20.out).mono ?_
  rintro _ w21 ⟨rfl, hg21⟩
  have G21 : Hid (Grown w w21) := Lib.hid (grownTrans G20.out hg21)
  have K21 := Lib.hid hg21
  have c14_0_21 := grownSome K21.out c14_0_20
  have c14_1_21 := grownSome K21.out c14_1_20
  have c16_0_21 := grownSome K21.out c16_0_20
  have c16_1_21 := grownSome K21.out c16_1_20
  clear c14_0_20 c14_1_20 c16_0_20 c16_1_20
  clear hg21 K21
  clear HT20
  have HT21 : Hid (Tab w21) := Lib.hid (HT.out.grown G21.out)
  have m14_18 : B14 < w21.heap.size := cellBlock c14_0_21
  have l14_18 : ¬ B14 = w21.heap.size := blkNe c14_0_21
  have l18_14 : ¬ w21.heap.size = B14 := fun h => l14_18 h.symm
  have m16_18 : B16 < w21.heap.size := cellBlock c16_0_21
  have l16_18 : ¬ B16 = w21.heap.size := blkNe c16_0_21
  have l18_16 : ¬ w21.heap.size = B16 := fun h => l16_18 h.symm
  go_wp2_with fail
  go_at_call 35
  refine (of_frac 1 2 _).mono ?_
  rintro _ w22 ⟨rfl, hg22⟩
  obtain ⟨G22, c18_0_22, c18_1_22, K22⟩ := fracKeep G21.out hg22
  have c14_0_22 := grownSome K22.out c14_0_21
  have c14_1_22 := grownSome K22.out c14_1_21
  have c16_0_22 := grownSome K22.out c16_0_21
  have c16_1_22 := grownSome K22.out c16_1_21
  clear c14_0_21 c14_1_21 c16_0_21 c16_1_21
  clear hg22 K22
  clear HT21
  have HT22 : Hid (Tab w22) := Lib.hid (HT.out.grown G22.out)
  generalize w21.heap.size = B18 at *
  go_wp2_with fail
  go_at_call 35
  refine (of_frac (-3) 4 _).mono ?_
  rintro _ w23 ⟨rfl, hg23⟩
  have G23 : Hid (Grown w w23) := Lib.hid (grownTrans G22.out hg23)
  have K23 := Lib.hid hg23
  have c14_0_23 := grownSome K23.out c14_0_22
  have c14_1_23 := grownSome K23.out c14_1_22
  have c16_0_23 := grownSome K23.out c16_0_22
  have c16_1_23 := grownSome K23.out c16_1_22
  have c18_0_23 := grownSome K23.out c18_0_22
  have c18_1_23 := grownSome K23.out c18_1_22
  clear c14_0_22 c14_1_22 c16_0_22 c16_1_22 c18_0_22 c18_1_22
  clear hg23 K23
  clear HT22
  have HT23 : Hid (Tab w23) := Lib.hid (HT.out.grown G23.out)
  go_wp2_with fail
  go_at_call 22
  refine (div_is 1 2 (-3) 4 (-2, 3, 0) (by kernel_rfl) _ HT23.out).mono ?_
  rintro _ w24 ⟨rfl, hg24⟩
  have G24 : Hid (Grown w w24) := Lib.hid (grownTrans G23.out hg24)
  have K24 := Lib.hid hg24
  have c14_0_24 := grownSome K24.out c14_0_23
  have c14_1_24 := grownSome K24.out c14_1_23
  have c16_0_24 := grownSome K24.out c16_0_23
  have c16_1_24 := grownSome K24.out c16_1_23
  have c18_0_24 := grownSome K24.out c18_0_23
  have c18_1_24 := grownSome K24.out c18_1_23
  clear c14_0_23 c14_1_23 c16_0_23 c16_1_23 c18_0_23 c18_1_23
  clear hg24 K24
  clear HT23
  have HT24 : Hid (Tab w24) := Lib.hid (HT.out.grown G24.out)
  have m14_20 : B14 < w24.heap.size := cellBlock c14_0_24
  have l14_20 : ¬ B14 = w24.heap.size := blkNe c14_0_24
  have l20_14 : ¬ w24.heap.size = B14 := fun h => l14_20 h.symm
  have m16_20 : B16 < w24.heap.size := cellBlock c16_0_24
  have l16_20 : ¬ B16 = w24.heap.size := blkNe c16_0_24
  have l20_16 : ¬ w24.heap.size = B16 := fun h => l16_20 h.symm
  have m18_20 : B18 < w24.heap.size := cellBlock c18_0_24
  have l18_20 : ¬ B18 = w24.heap.size := blkNe c18_0_24
  have l20_18 : ¬ w24.heap.size = B18 := fun h => l18_20 h.symm
  go_wp2_with fail
  go_at_call 35
  refine (of_frac 1 2 _).mono ?_
  rintro _ w25 ⟨rfl, hg25⟩
  obtain ⟨G25, c20_0_25, c20_1_25, K25⟩ := fracKeep G24.out hg25
  have c14_0_25 := grownSome K25.out c14_0_24
  have c14_1_25 := grownSome K25.out c14_1_24
  have c16_0_25 := grownSome K25.out c16_0_24
  have c16_1_25 := grownSome K25.out c16_1_24
  have c18_0_25 := grownSome K25.out c18_0_24
  have c18_1_25 := grownSome K25.out c18_1_24
  clear c14_0_24 c14_1_24 c16_0_24 c16_1_24 c18_0_24 c18_1_24
  clear hg25 K25
  clear HT24
  have HT25 : Hid (Tab w25) := Lib.hid (HT.out.grown G25.out)
  generalize w24.heap.size = B20 at *
  go_wp2_with fail
  go_at_call 35
  refine (of_frac 0 1 _).mono ?_
  rintro _ w26 ⟨rfl, hg26⟩
  have G26 : Hid (Grown w w26) := Lib.hid (grownTrans G25.out hg26)
  have K26 := Lib.hid hg26
  have c14_0_26 := grownSome K26.out c14_0_25
  have c14_1_26 := grownSome K26.out c14_1_25
  have c16_0_26 := grownSome K26.out c16_0_25
  have c16_1_26 := grownSome K26.out c16_1_25
  have c18_0_26 := grownSome K26.out c18_0_25
  have c18_1_26 := grownSome K26.out c18_1_25
  have c20_0_26 := grownSome K26.out c20_0_25
  have c20_1_26 := grownSome K26.out c20_1_25
  clear c14_0_25 c14_1_25 c16_0_25 c16_1_25 c18_0_25 c18_1_25 c20_0_25 c20_1_25
  clear hg26 K26
  clear HT25
  have HT26 : Hid (Tab w26) := Lib.hid (HT.out.grown G26.out)
  go_wp2_with fail
  go_at_call 22
  refine (div_is 1 2 0 1 (0, 0, 2) (by kernel_rfl) _ HT26.out).mono ?_
  rintro _ w27 ⟨rfl, hg27⟩
  have G27 : Hid (Grown w w27) := Lib.hid (grownTrans G26.out hg27)
  have K27 := Lib.hid hg27
  have c14_0_27 := grownSome K27.out c14_0_26
  have c14_1_27 := grownSome K27.out c14_1_26
  have c16_0_27 := grownSome K27.out c16_0_26
  have c16_1_27 := grownSome K27.out c16_1_26
  have c18_0_27 := grownSome K27.out c18_0_26
  have c18_1_27 := grownSome K27.out c18_1_26
  have c20_0_27 := grownSome K27.out c20_0_26
  have c20_1_27 := grownSome K27.out c20_1_26
  clear c14_0_26 c14_1_26 c16_0_26 c16_1_26 c18_0_26 c18_1_26 c20_0_26 c20_1_26
  clear hg27 K27
  clear HT26
  have HT27 : Hid (Tab w27) := Lib.hid (HT.out.grown G27.out)
  have m14_22 : B14 < w27.heap.size := cellBlock c14_0_27
  have l14_22 : ¬ B14 = w27.heap.size := blkNe c14_0_27
  have l22_14 : ¬ w27.heap.size = B14 := fun h => l14_22 h.symm
  have m16_22 : B16 < w27.heap.size := cellBlock c16_0_27
  have l16_22 : ¬ B16 = w27.heap.size := blkNe c16_0_27
  have l22_16 : ¬ w27.heap.size = B16 := fun h => l16_22 h.symm
  have m18_22 : B18 < w27.heap.size := cellBlock c18_0_27
  have l18_22 : ¬ B18 = w27.heap.size := blkNe c18_0_27
  have l22_18 : ¬ w27.heap.size = B18 := fun h => l18_22 h.symm
  have m20_22 : B20 < w27.heap.size := cellBlock c20_0_27
  have l20_22 : ¬ B20 = w27.heap.size := blkNe c20_0_27
  have l22_20 : ¬ w27.heap.size = B20 := fun h => l20_22 h.symm
  go_wp2_with fail
  go_at_call 35
  refine (of_frac 1048576 1 _).mono ?_
  rintro _ w28 ⟨rfl, hg28⟩
  obtain ⟨G28, c22_0_28, c22_1_28, K28⟩ := fracKeep G27.out hg28
  have c14_0_28 := grownSome K28.out c14_0_27
  have c14_1_28 := grownSome K28.out c14_1_27
  have c16_0_28 := grownSome K28.out c16_0_27
  have c16_1_28 := grownSome K28.out c16_1_27
  have c18_0_28 := grownSome K28.out c18_0_27
  have c18_1_28 := grownSome K28.out c18_1_27
  have c20_0_28 := grownSome K28.out c20_0_27
  have c20_1_28 := grownSome K28.out c20_1_27
  clear c14_0_27 c14_1_27 c16_0_27 c16_1_27 c18_0_27 c18_1_27 c20_0_27 c20_1_27
  clear hg28 K28
  clear HT27
  have HT28 : Hid (Tab w28) := Lib.hid (HT.out.grown G28.out)
  generalize w27.heap.size = B22 at *
  clear c22_0_28 c22_1_28
  go_wp2_with fail
  go_at_call 35
  refine (of_frac 1048576 1 _).mono ?_
  rintro _ w29 ⟨rfl, hg29⟩
  have G29 : Hid (Grown w w29) := Lib.hid (grownTrans G28.out hg29)
  have K29 := Lib.hid hg29
  have c14_0_29 := grownSome K29.out c14_0_28
  have c14_1_29 := grownSome K29.out c14_1_28
  have c16_0_29 := grownSome K29.out c16_0_28
  have c16_1_29 := grownSome K29.out c16_1_28
  have c18_0_29 := grownSome K29.out c18_0_28
  have c18_1_29 := grownSome K29.out c18_1_28
  have c20_0_29 := grownSome K29.out c20_0_28
  have c20_1_29 := grownSome K29.out c20_1_28
  clear c14_0_28 c14_1_28 c16_0_28 c16_1_28 c18_0_28 c18_1_28 c20_0_28 c20_1_28
  clear hg29 K29
  clear HT28
  have HT29 : Hid (Tab w29) := Lib.hid (HT.out.grown G29.out)
  go_wp2_with fail
  go_at_call 20
  refine (mul_is 1048576 1 1048576 1 (0, 0, 6) (by kernel_rfl) _ HT29.out).mono ?_
  rintro _ w30 ⟨rfl, hg30⟩
  have G30 : Hid (Grown w w30) := Lib.hid (grownTrans G29.out hg30)
  have K30 := Lib.hid hg30
  have c14_0_30 := grownSome K30.out c14_0_29
  have c14_1_30 := grownSome K30.out c14_1_29
  have c16_0_30 := grownSome K30.out c16_0_29
  have c16_1_30 := grownSome K30.out c16_1_29
  have c18_0_30 := grownSome K30.out c18_0_29
  have c18_1_30 := grownSome K30.out c18_1_29
  have c20_0_30 := grownSome K30.out c20_0_29
  have c20_1_30 := grownSome K30.out c20_1_29
  clear c14_0_29 c14_1_29 c16_0_29 c16_1_29 c18_0_29 c18_1_29 c20_0_29 c20_1_29
  clear hg30 K30
  clear HT29
  have HT30 : Hid (Tab w30) := Lib.hid (HT.out.grown G30.out)
  have m14_24 : B14 < w30.heap.size := cellBlock c14_0_30
  have l14_24 : ¬ B14 = w30.heap.size := blkNe c14_0_30
  have l24_14 : ¬ w30.heap.size = B14 := fun h => l14_24 h.symm
  have m16_24 : B16 < w30.heap.size := cellBlock c16_0_30
  have l16_24 : ¬ B16 = w30.heap.size := blkNe c16_0_30
  have l24_16 : ¬ w30.heap.size = B16 := fun h => l16_24 h.symm
  have m18_24 : B18 < w30.heap.size := cellBlock c18_0_30
  have l18_24 : ¬ B18 = w30.heap.size := blkNe c18_0_30
  have l24_18 : ¬ w30.heap.size = B18 := fun h => l18_24 h.symm
  have m20_24 : B20 < w30.heap.size := cellBlock c20_0_30
  have l20_24 : ¬ B20 = w30.heap.size := blkNe c20_0_30
  have l24_20 : ¬ w30.heap.size = B20 := fun h => l20_24 h.symm
  go_wp2_with fail
  go_at_call 36
  refine (is_yes 5 6 _).mono ?_
  rintro _ w31 ⟨rfl, hg31⟩
  obtain ⟨G31, c24_0_31, c24_1_31, K31⟩ := fracKeep G30.out hg31
  have c14_0_31 := grownSome K31.out c14_0_30
  have c14_1_31 := grownSome K31.out c14_1_30
  have c16_0_31 := grownSome K31.out c16_0_30
  have c16_1_31 := grownSome K31.out c16_1_30
  have c18_0_31 := grownSome K31.out c18_0_30
  have c18_1_31 := grownSome K31.out c18_1_30
  have c20_0_31 := grownSome K31.out c20_0_30
  have c20_1_31 := grownSome K31.out c20_1_30
  clear c14_0_30 c14_1_30 c16_0_30 c16_1_30 c18_0_30 c18_1_30 c20_0_30 c20_1_30
  clear hg31 K31
  clear HT30
  have HT31 : Hid (Tab w31) := Lib.hid (HT.out.grown G31.out)
  generalize w30.heap.size = B24 at *
  clear c24_0_31 c24_1_31
  clear c14_0_31 c14_1_31
  go_wp2_with fail
  go_at_call 36
  refine (is_yes 0 1 _).mono ?_
  rintro _ w32 ⟨rfl, hg32⟩
  have G32 : Hid (Grown w w32) := Lib.hid (grownTrans G31.out hg32)
  have K32 := Lib.hid hg32
  have c16_0_32 := grownSome K32.out c16_0_31
  have c16_1_32 := grownSome K32.out c16_1_31
  have c18_0_32 := grownSome K32.out c18_0_31
  have c18_1_32 := grownSome K32.out c18_1_31
  have c20_0_32 := grownSome K32.out c20_0_31
  have c20_1_32 := grownSome K32.out c20_1_31
  clear c16_0_31 c16_1_31 c18_0_31 c18_1_31 c20_0_31 c20_1_31
  clear hg32 K32
  clear HT31
  have HT32 : Hid (Tab w32) := Lib.hid (HT.out.grown G32.out)
  clear c16_0_32 c16_1_32
  go_wp2_with fail
  go_at_call 36
  refine (is_yes 1 2 _).mono ?_
  rintro _ w33 ⟨rfl, hg33⟩
  have G33 : Hid (Grown w w33) := Lib.hid (grownTrans G32.out hg33)
  have K33 := Lib.hid hg33
  have c18_0_33 := grownSome K33.out c18_0_32
  have c18_1_33 := grownSome K33.out c18_1_32
  have c20_0_33 := grownSome K33.out c20_0_32
  have c20_1_33 := grownSome K33.out c20_1_32
  clear c18_0_32 c18_1_32 c20_0_32 c20_1_32
  clear hg33 K33
  clear HT32
  have HT33 : Hid (Tab w33) := Lib.hid (HT.out.grown G33.out)
  clear c18_0_33 c18_1_33
  go_wp2_with fail
  go_at_call 36
  refine (is_yes (-2) 3 _).mono ?_
  rintro _ w34 ⟨rfl, hg34⟩
  have G34 : Hid (Grown w w34) := Lib.hid (grownTrans G33.out hg34)
  have K34 := Lib.hid hg34
  have c20_0_34 := grownSome K34.out c20_0_33
  have c20_1_34 := grownSome K34.out c20_1_33
  clear c20_0_33 c20_1_33
  clear hg34 K34
  clear HT33
  have HT34 : Hid (Tab w34) := Lib.hid (HT.out.grown G34.out)
  clear c20_0_34 c20_1_34
  go_wp2_with fail
  go_at_call 35
  refine (of_frac 1 3 _).mono ?_
  rintro _ w35 ⟨rfl, hg35⟩
  have G35 : Hid (Grown w w35) := Lib.hid (grownTrans G34.out hg35)
  have K35 := Lib.hid hg35
  clear hg35 K35
  clear HT34
  have HT35 : Hid (Tab w35) := Lib.hid (HT.out.grown G35.out)
  go_wp2_with fail
  go_at_call 35
  refine (of_frac 2 5 _).mono ?_
  rintro _ w36 ⟨rfl, hg36⟩
  have G36 : Hid (Grown w w36) := Lib.hid (grownTrans G35.out hg36)
  have K36 := Lib.hid hg36
  clear hg36 K36
  clear HT35
  have HT36 : Hid (Tab w36) := Lib.hid (HT.out.grown G36.out)
  go_wp2_with fail
  go_at_call 24
  refine (cmp_is' 1 3 2 5 (-1, 0) (by kernel_rfl) _ HT36.out).mono ?_
  rintro _ w37 ⟨rfl, hg37⟩
  have G37 : Hid (Grown w w37) := Lib.hid (grownTrans G36.out hg37)
  have K37 := Lib.hid hg37
  clear hg37 K37
  clear HT36
  have HT37 : Hid (Tab w37) := Lib.hid (HT.out.grown G37.out)
  go_wp2_with fail
  go_at_call 35
  refine (of_frac (-3) 2 _).mono ?_
  rintro _ w38 ⟨rfl, hg38⟩
  have G38 : Hid (Grown w w38) := Lib.hid (grownTrans G37.out hg38)
  have K38 := Lib.hid hg38
  clear hg38 K38
  clear HT37
  have HT38 : Hid (Tab w38) := Lib.hid (HT.out.grown G38.out)
  go_wp2_with fail
  go_at_call 30
  refine (floor_is (-3) 2 (-2, 0) (by kernel_rfl) _ HT38.out).mono ?_
  rintro _ w39 ⟨rfl, hg39⟩
  have G39 : Hid (Grown w w39) := Lib.hid (grownTrans G38.out hg39)
  have K39 := Lib.hid hg39
  clear hg39 K39
  clear HT38
  have HT39 : Hid (Tab w39) := Lib.hid (HT.out.grown G39.out)
  go_wp2_with fail
  go_at_call 35
  refine (of_frac (-3) 2 _).mono ?_
  rintro _ w40 ⟨rfl, hg40⟩
  have G40 : Hid (Grown w w40) := Lib.hid (grownTrans G39.out hg40)
  have K40 := Lib.hid hg40
  clear hg40 K40
  clear HT39
  have HT40 : Hid (Tab w40) := Lib.hid (HT.out.grown G40.out)
  go_wp2_with fail
  go_at_call 32
  refine (ceil_is (-3) 2 (-1, 0) (by kernel_rfl) _ HT40.out).mono ?_
  rintro _ w41 ⟨rfl, hg41⟩
  have G41 : Hid (Grown w w41) := Lib.hid (grownTrans G40.out hg41)
  have K41 := Lib.hid hg41
  clear hg41 K41
  clear HT40
  have HT41 : Hid (Tab w41) := Lib.hid (HT.out.grown G41.out)
  go_wp2_with fail
  go_at_call 35
  refine (of_frac 1 3 _).mono ?_
  rintro _ w42 ⟨rfl, hg42⟩
  have G42 : Hid (Grown w w42) := Lib.hid (grownTrans G41.out hg42)
  have K42 := Lib.hid hg42
  clear hg42 K42
  clear HT41
  have HT42 : Hid (Tab w42) := Lib.hid (HT.out.grown G42.out)
  go_wp2_with fail
  go_at_call 35
  refine (of_frac 2 5 _).mono ?_
  rintro _ w43 ⟨rfl, hg43⟩
  have G43 : Hid (Grown w w43) := Lib.hid (grownTrans G42.out hg43)
  have K43 := Lib.hid hg43
  clear hg43 K43
  clear HT42
  have HT43 : Hid (Tab w43) := Lib.hid (HT.out.grown G43.out)
  go_wp2_with fail
  go_at_call 28
  refine (max_is 1 3 2 5 (2, 5, 0) (by kernel_rfl) _ HT43.out).mono ?_
  rintro _ w44 ⟨rfl, hg44⟩
  have G44 : Hid (Grown w w44) := Lib.hid (grownTrans G43.out hg44)
  have K44 := Lib.hid hg44
  clear hg44 K44
  clear HT43
  have HT44 : Hid (Tab w44) := Lib.hid (HT.out.grown G44.out)
  go_wp2_with fail
  go_at_call 36
  refine (is_yes 2 5 _).mono ?_
  rintro _ w45 ⟨rfl, hg45⟩
  obtain ⟨G45, c33_0_45, c33_1_45, K45⟩ := fracKeep G44.out hg45
  clear hg45 K45
  clear HT44
  have HT45 : Hid (Tab w45) := Lib.hid (HT.out.grown G45.out)
  generalize w44.heap.size = B33 at *
  clear c33_0_45 c33_1_45
  go_wp2_with fail
  go_ret
  exact ⟨rfl, G45.out⟩

end Go.Proofs.YtiibpdameldblaaDoor
