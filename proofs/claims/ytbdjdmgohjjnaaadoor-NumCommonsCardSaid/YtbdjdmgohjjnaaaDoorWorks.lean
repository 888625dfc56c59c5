/- The chapter's closed examples: 'works' of the law's package answers true. -/
import Derived.Test.YtbdjdmgohjjnaaaDoorLcmN
namespace Go.Proofs.YtbdjdmgohjjnaaaDoor
open Go Go.RowKit

theorem add_is (a b : Int) (r : Int × Bool) (h : addS a b = r) (w : World) : Calls Tryd.prog 12 #[.int .i64 a, .int .i64 b] w (Pair r w) := h ▸ add_any a b w
theorem mul_is (a b : Int) (r : Int × Bool) (h : mulS a b = r) (w : World) : Calls Tryd.prog 16 #[.int .i64 a, .int .i64 b] w (Pair r w) := h ▸ mul_any a b w
theorem floor_is (a b : Int) (r : Int × Bool) (h : floorS a b = r) (w : World) : Calls Tryd.prog 19 #[.int .i64 a, .int .i64 b] w (Pair r w) := h ▸ floor_any a b w
theorem ceil_is (a b : Int) (r : Int × Bool) (h : ceilS a b = r) (w : World) (h1 : (-9223372036854775808 ≤ a ∧ a ≤ 9223372036854775807)) : Calls Tryd.prog 21 #[.int .i64 a, .int .i64 b] w (Pair r w) := h ▸ ceil_any a b w h1
theorem mod_is (a b : Int) (r : Int × Bool) (h : modS a b = r) (w : World) : Calls Tryd.prog 23 #[.int .i64 a, .int .i64 b] w (Pair r w) := h ▸ mod_any a b w
theorem mulDiv_is (a b c : Int) (r : Int × Bool) (h : mulDivS a b c = r) (w : World) : Calls Tryd.prog 25 #[.int .i64 a, .int .i64 b, .int .i64 c] w (Pair r w) := h ▸ mulDiv_any a b c w
theorem gcd_is (a b n : Int) (w : World) (hT : Tab w) (h : gcdS a b = n) : Calls Tryd.prog 27 #[.int .i64 a, .int .i64 b] w (Num n w) := h ▸ gcd_any a b w hT

/-- Lcm of a list that the caller has just laid. -/
theorem lcm_new (zs : List Int) (w : World) (hT : Tab w) (hm : zs.length ≤ 9223372036854775807) (r : Int × Bool) (h : lcmS zs = r) :
    Calls Tryd.prog 29 #[.slice (some ⟨w.heap.size, 0, none⟩) zs.length zs.length] (w.alloc (.cells (zs.map (Value.int .i64)).toArray 3)) (Pair r (w.alloc (.cells (zs.map (Value.int .i64)).toArray 3))) := by
  subst h
  refine lcm_any _ 0 zs.length zs.length zs _ (hT.grown (Grown.alloc (Grown.refl _) _ _)) rfl hm ?_
  intro j hj
  rw [cellsNew _ _ _ _ (by simpa using hj)]
  simp [List.getD, List.getElem?_eq_getElem hj]

theorem is_true (n : Int) (w : World) : Calls Tryd.prog 31 #[.int .i64 n, .bool true, .int .i64 n] w fun e w' => e = .returned (.bool true) ∧ w = w' := by
  go_enter Tryd.func31, Tryd.ntmps31
  go_wp2
  go_ret
  exact ⟨rfl, rfl⟩
theorem no_true (w : World) : Calls Tryd.prog 32 #[.int .i64 0, .bool false] w fun e w' => e = .returned (.bool true) ∧ w = w' := by
  go_enter Tryd.func32, Tryd.ntmps32
  go_wp2
  go_ret
  exact ⟨rfl, rfl⟩

set_option maxRecDepth 100000 in
set_option maxHeartbeats 4000000 in
theorem works_true (w : World) (hT : Tab w) : Calls Tryd.prog 18 #[] w fun e w' => e = .returned (.bool true) ∧ Grown w w' := by
  have HT := Lib.hid hT
  have HT0 := HT
  have G0 := Lib.hid (Grown.refl w)
  clear hT
  go_enter Tryd.func18, Tryd.ntmps18
  go_wp2_with fail
  go_at_call 12
  refine (add_is 2 3 (5, true) (by kernel_rfl) _).mono ?_
  rintro e w1 ⟨rfl, hg1⟩
  have G1 := Lib.hid (grownTrans G0.out hg1)
  have HT1 := Lib.hid (HT.out.grown G1.out)
  clear hg1
  go_wp2_with fail
  go_at_call 12
  refine (add_is 1125899906842624 1 (0, false) (by kernel_rfl) _).mono ?_
  rintro e w2 ⟨rfl, hg2⟩
  have G2 := Lib.hid (grownTrans G1.out hg2)
  have HT2 := Lib.hid (HT.out.grown G2.out)
  clear hg2
  go_wp2_with fail
  go_at_call 12
  refine (add_is 1125899906842625 (-5) (0, false) (by kernel_rfl) _).mono ?_
  rintro e w3 ⟨rfl, hg3⟩
  have G3 := Lib.hid (grownTrans G2.out hg3)
  have HT3 := Lib.hid (HT.out.grown G3.out)
  clear hg3
  go_wp2_with fail
  go_at_call 16
  refine (mul_is (-4) 5 (-20, true) (by kernel_rfl) _).mono ?_
  rintro e w4 ⟨rfl, hg4⟩
  have G4 := Lib.hid (grownTrans G3.out hg4)
  have HT4 := Lib.hid (HT.out.grown G4.out)
  clear hg4
  go_wp2_with fail
  go_at_call 16
  refine (mul_is 67108864 16777216 (1125899906842624, true) (by kernel_rfl) _).mono ?_
  rintro e w5 ⟨rfl, hg5⟩
  have G5 := Lib.hid (grownTrans G4.out hg5)
  have HT5 := Lib.hid (HT.out.grown G5.out)
  clear hg5
  go_wp2_with fail
  go_at_call 16
  refine (mul_is 67108864 33554432 (0, false) (by kernel_rfl) _).mono ?_
  rintro e w6 ⟨rfl, hg6⟩
  have G6 := Lib.hid (grownTrans G5.out hg6)
  have HT6 := Lib.hid (HT.out.grown G6.out)
  clear hg6
  go_wp2_with (first | (go_at_call 31; ((with_reducible refine (is_true _ _).mono ?_); rintro e w' ⟨rfl, rfl⟩)) | (go_at_call 32; ((with_reducible refine (no_true _).mono ?_); rintro e w' ⟨rfl, rfl⟩)))
  go_wp2_with fail
  go_at_call 19
  refine (floor_is (-7) 2 (-4, true) (by kernel_rfl) _).mono ?_
  rintro e w7 ⟨rfl, hg7⟩
  have G7 := Lib.hid (grownTrans G6.out hg7)
  have HT7 := Lib.hid (HT.out.grown G7.out)
  clear hg7
  go_wp2_with fail
  go_at_call 21
  refine (ceil_is (-7) 2 (-3, true) (by kernel_rfl) _ (by decide)).mono ?_
  rintro e w8 ⟨rfl, hg8⟩
  have G8 := Lib.hid (grownTrans G7.out hg8)
  have HT8 := Lib.hid (HT.out.grown G8.out)
  clear hg8
  go_wp2_with fail
  go_at_call 23
  refine (mod_is (-7) 2 (1, true) (by kernel_rfl) _).mono ?_
  rintro e w9 ⟨rfl, hg9⟩
  have G9 := Lib.hid (grownTrans G8.out hg9)
  have HT9 := Lib.hid (HT.out.grown G9.out)
  clear hg9
  go_wp2_with fail
  go_at_call 23
  refine (mod_is 7 0 (0, false) (by kernel_rfl) _).mono ?_
  rintro e w10 ⟨rfl, hg10⟩
  have G10 := Lib.hid (grownTrans G9.out hg10)
  have HT10 := Lib.hid (HT.out.grown G10.out)
  clear hg10
  go_wp2_with (first | (go_at_call 31; ((with_reducible refine (is_true _ _).mono ?_); rintro e w' ⟨rfl, rfl⟩)) | (go_at_call 32; ((with_reducible refine (no_true _).mono ?_); rintro e w' ⟨rfl, rfl⟩)))
  go_wp2_with fail
  go_at_call 25
  refine (mulDiv_is 1125899906842624 3 4 (844424930131968, true) (by kernel_rfl) _).mono ?_
  rintro e w11 ⟨rfl, hg11⟩
  have G11 := Lib.hid (grownTrans G10.out hg11)
  have HT11 := Lib.hid (HT.out.grown G11.out)
  clear hg11
  go_wp2_with fail
  go_at_call 25
  refine (mulDiv_is (-7) 3 2 (-11, true) (by kernel_rfl) _).mono ?_
  rintro e w12 ⟨rfl, hg12⟩
  have G12 := Lib.hid (grownTrans G11.out hg12)
  have HT12 := Lib.hid (HT.out.grown G12.out)
  clear hg12
  go_wp2_with fail
  go_at_call 25
  refine (mulDiv_is 1125899906842624 1125899906842624 1125899906842624 (1125899906842624, true) (by kernel_rfl) _).mono ?_
  rintro e w13 ⟨rfl, hg13⟩
  have G13 := Lib.hid (grownTrans G12.out hg13)
  have HT13 := Lib.hid (HT.out.grown G13.out)
  clear hg13
  go_wp2_with fail
  go_at_call 25
  refine (mulDiv_is 1125899906842624 2 1 (0, false) (by kernel_rfl) _).mono ?_
  rintro e w14 ⟨rfl, hg14⟩
  have G14 := Lib.hid (grownTrans G13.out hg14)
  have HT14 := Lib.hid (HT.out.grown G14.out)
  clear hg14
  go_wp2_with fail
  go_at_call 25
  refine (mulDiv_is 1 1 0 (0, false) (by kernel_rfl) _).mono ?_
  rintro e w15 ⟨rfl, hg15⟩
  have G15 := Lib.hid (grownTrans G14.out hg15)
  have HT15 := Lib.hid (HT.out.grown G15.out)
  clear hg15
  go_wp2_with (first | (go_at_call 31; ((with_reducible refine (is_true _ _).mono ?_); rintro e w' ⟨rfl, rfl⟩)) | (go_at_call 32; ((with_reducible refine (no_true _).mono ?_); rintro e w' ⟨rfl, rfl⟩)))
  go_wp2_with fail
  go_at_call 29
  refine (lcm_new [4, 6, 10] _ HT15.out (by decide) (60, true) (by kernel_rfl)).mono ?_
  rintro e w16 ⟨rfl, hg16⟩
  have G16 := Lib.hid (grownTrans G15.out (grownTrans (by go_grown) hg16))
  have HT16 := Lib.hid (HT.out.grown G16.out)
  clear hg16
  go_wp2_with fail
  go_at_call 29
  refine (lcm_nil _).mono ?_
  rintro e w17 ⟨rfl, hg17⟩
  have G17 := Lib.hid (grownTrans G16.out hg17)
  have HT17 := Lib.hid (HT.out.grown G17.out)
  clear hg17
  go_wp2_with fail
  go_at_call 29
  refine (lcm_new [3, 0] _ HT17.out (by decide) (0, false) (by kernel_rfl)).mono ?_
  rintro e w18 ⟨rfl, hg18⟩
  have G18 := Lib.hid (grownTrans G17.out (grownTrans (by go_grown) hg18))
  have HT18 := Lib.hid (HT.out.grown G18.out)
  clear hg18
  go_wp2_with (first | (go_at_call 31; ((with_reducible refine (is_true _ _).mono ?_); rintro e w' ⟨rfl, rfl⟩)) | (go_at_call 32; ((with_reducible refine (no_true _).mono ?_); rintro e w' ⟨rfl, rfl⟩)))
  go_wp2_with fail
  go_at_call 27
  refine (gcd_is 12 (-18) 6 _ HT18.out (by kernel_rfl)).mono ?_
  rintro e w19 ⟨rfl, hg19⟩
  have G19 := Lib.hid (grownTrans G18.out hg19)
  have HT19 := Lib.hid (HT.out.grown G19.out)
  clear hg19
  go_wp2_with (first | (go_at_call 31; ((with_reducible refine (is_true _ _).mono ?_); rintro e w' ⟨rfl, rfl⟩)) | (go_at_call 32; ((with_reducible refine (no_true _).mono ?_); rintro e w' ⟨rfl, rfl⟩)))
  go_wp2_with fail
  go_at_call 27
  refine (gcd_is 0 0 0 _ HT19.out (by kernel_rfl)).mono ?_
  rintro e w20 ⟨rfl, hg20⟩
  have G20 := Lib.hid (grownTrans G19.out hg20)
  have HT20 := Lib.hid (HT.out.grown G20.out)
  clear hg20
  go_wp2_with (first | (go_at_call 31; ((with_reducible refine (is_true _ _).mono ?_); rintro e w' ⟨rfl, rfl⟩)) | (go_at_call 32; ((with_reducible refine (no_true _).mono ?_); rintro e w' ⟨rfl, rfl⟩)))
  go_ret
  exact ⟨rfl, G20.out⟩

end Go.Proofs.YtbdjdmgohjjnaaaDoor
