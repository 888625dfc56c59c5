/- RatSums' walk: the program and the reference answer the same. -/
import Derived.Test.YtiibpdameldblaaDoorWorks
import Derived.Test.YtiibpdameldblaaDoorPairs
import Derived.Test.YtiibpdameldblaaDoorRefOps
import Derived.Deep.DeepCutAuto
namespace Go.Proofs.YtiibpdameldblaaDoor
open Go Go.RowKit

theorem pairKeep {W w1 w2 : World} {x y z u : Value} (G : Grown W w1) (h : Grown (w1.alloc (.cells #[x, y, z, u] 33)) w2) :
    Hid (Grown W w2) ∧ w2.cell? ⟨w1.heap.size, 0, none⟩ = some x ∧ w2.cell? ⟨w1.heap.size, 1, none⟩ = some y ∧ w2.cell? ⟨w1.heap.size, 2, none⟩ = some z ∧ w2.cell? ⟨w1.heap.size, 3, none⟩ = some u ∧ Hid (Grown w1 w2) :=
  ⟨Lib.hid (grownTrans (Grown.alloc G _ _) h), grownSome h (by simp [go_sem]), grownSome h (by simp [go_sem]), grownSome h (by simp [go_sem]), grownSome h (by simp [go_sem]), Lib.hid (grownTrans (Grown.alloc (Grown.refl _) _ _) h)⟩
theorem refadd_is (a b c d : Int) (r : Int × Int × Int) (h : addF a b c d = r) (w : World) : Calls Tryd.prog 17 #[.agg #[.int .i64 a, .int .i64 b], .agg #[.int .i64 c, .int .i64 d]] w (Frac r w) := h ▸ refadd_any a b c d w
theorem refsub_is (a b c d : Int) (r : Int × Int × Int) (h : subF a b c d = r) (w : World) : Calls Tryd.prog 19 #[.agg #[.int .i64 a, .int .i64 b], .agg #[.int .i64 c, .int .i64 d]] w (Frac r w) := h ▸ refsub_any a b c d w
theorem refmul_is (a b c d : Int) (r : Int × Int × Int) (h : mulF a b c d = r) (w : World) : Calls Tryd.prog 21 #[.agg #[.int .i64 a, .int .i64 b], .agg #[.int .i64 c, .int .i64 d]] w (Frac r w) := h ▸ refmul_any a b c d w
theorem refdiv_is (a b c d : Int) (r : Int × Int × Int) (h : divF a b c d = r) (w : World) : Calls Tryd.prog 23 #[.agg #[.int .i64 a, .int .i64 b], .agg #[.int .i64 c, .int .i64 d]] w (Frac r w) := h ▸ refdiv_any a b c d w

set_option maxRecDepth 100000 in
set_option maxHeartbeats 8000000 in
theorem sums_true (a b c d : Int) (w : World) (hT : Tab w) :
    Calls Tryd.prog 4 #[.agg #[.int .i64 a, .int .i64 b], .agg #[.int .i64 c, .int .i64 d]] w fun e w' => e = .returned (.bool true) ∧ Grown w w' := by
  have HT := Lib.hid hT
  clear hT
  obtain ⟨⟨p, q⟩, h1⟩ : ∃ r, ofS a b = r := ⟨_, rfl⟩
  obtain ⟨⟨r, s⟩, h2⟩ : ∃ r, ofS c d = r := ⟨_, rfl⟩
  have H1 := Lib.hid h1
  have H2 := Lib.hid h2
  clear h1 h2
  have hi : ∀ k : Int, 0 ≤ k → k < 4 → ∃ x1 x2 x3 x4 : Int, ∀ w, (Instr.index 34 (.agg #[.int .i64 a, .int .i64 b, .int .i64 c, .int .i64 d, .int .i64 p, .int .i64 q, .int .i64 r, .int .i64 s, .int .i64 a, .int .i64 b, .int .i64 r, .int .i64 s, .int .i64 p, .int .i64 q, .int .i64 p, .int .i64 q]) (.int .i64 k)).run Tryd.prog w = .ok (.agg #[.int .i64 x1, .int .i64 x2, .int .i64 x3, .int .i64 x4]) w := by
    intro k h0 h4
    obtain rfl | rfl | rfl | rfl : k = 0 ∨ k = 1 ∨ k = 2 ∨ k = 3 := by omega
    · exact ⟨a, b, c, d, fun _ => by kernel_rfl⟩
    · exact ⟨p, q, r, s, fun _ => by kernel_rfl⟩
    · exact ⟨a, b, r, s, fun _ => by kernel_rfl⟩
    · exact ⟨p, q, p, q, fun _ => by kernel_rfl⟩
  have HI := Lib.hid hi
  clear hi
  go_enter Tryd.func4, Tryd.ntmps4
  go_wp2_with fail
  go_at_call 15
  refine (pairs_any a b c d p q r s _ H1 H2).mono ?_
  rintro _ wp ⟨rfl, hgp⟩
  have GP : Hid (Grown w wp) := Lib.hid (grownTrans (by go_grown) hgp)
  clear hgp
  go_wp2_with fail
  go_loopw [26] (fun i wr => ∃ k : Int, 0 ≤ k ∧ k ≤ 4 ∧ i = .int .i64 k ∧ Hid (Grown w wr)) (fun i _ => 4 - (intOf i).toNat)
  case atStart => exact ⟨0, by omega, by omega, rfl, GP⟩
  case round =>
    obtain ⟨k, hk0, hk4, rfl, G0⟩ := hrel
    by_cases hk : k < 4
    · -- a round
      obtain ⟨x1, x2, x3, x4, hx⟩ := HI.out k hk0 hk
      obtain ⟨⟨s0, t0, e0⟩, hs0⟩ : ∃ r, addF x1 x2 x3 x4 = r := ⟨_, rfl⟩
      have HS0 := Lib.hid hs0
      clear hs0
      obtain ⟨⟨s1, t1, e1⟩, hs1⟩ : ∃ r, subF x1 x2 x3 x4 = r := ⟨_, rfl⟩
      have HS1 := Lib.hid hs1
      clear hs1
      obtain ⟨⟨s2, t2, e2⟩, hs2⟩ : ∃ r, mulF x1 x2 x3 x4 = r := ⟨_, rfl⟩
      have HS2 := Lib.hid hs2
      clear hs2
      obtain ⟨⟨s3, t3, e3⟩, hs3⟩ : ∃ r, divF x1 x2 x3 x4 = r := ⟨_, rfl⟩
      have HS3 := Lib.hid hs3
      clear hs3
      have HT0 : Hid (Tab wr) := Lib.hid (HT.out.grown G0.out)
      go_wp2_with fail
      go_at_call 16
      refine (add_is x1 x2 x3 x4 (s0, t0, e0) HS0.out _ (HT.out.grown (Grown.alloc G0.out _ _))).mono ?_
      rintro _ w1 ⟨rfl, hg1⟩
      obtain ⟨G1, cK_0_1, cK_1_1, cK_2_1, cK_3_1, K1⟩ := pairKeep G0.out hg1
      clear hg1 K1
      have HT1 : Hid (Tab w1) := Lib.hid (HT.out.grown G1.out)
      generalize wr.heap.size = BK at *
      have mK_P0 : BK < w1.heap.size := cellBlock cK_0_1
      have lK_P0 : ¬ BK = w1.heap.size := blkNe cK_0_1
      have lP0_K : ¬ w1.heap.size = BK := fun h => lK_P0 h.symm
      go_wp2_with fail
      go_at_call 17
      refine (refadd_is x1 x2 x3 x4 (s0, t0, e0) HS0.out _).mono ?_
      rintro _ w2 ⟨rfl, hg2⟩
      obtain ⟨G2, cP0_0_2, cP0_1_2, K2⟩ := fracKeep G1.out hg2
      have cK_0_2 := grownSome K2.out cK_0_1
      have cK_1_2 := grownSome K2.out cK_1_1
      have cK_2_2 := grownSome K2.out cK_2_1
      have cK_3_2 := grownSome K2.out cK_3_1
      clear cK_0_1 cK_1_1 cK_2_1 cK_3_1
      clear hg2 K2
      clear HT1
      have HT2 : Hid (Tab w2) := Lib.hid (HT.out.grown G2.out)
      generalize w1.heap.size = BP0 at *
      have mK_R0 : BK < w2.heap.size := cellBlock cK_0_2
      have lK_R0 : ¬ BK = w2.heap.size := blkNe cK_0_2
      have lR0_K : ¬ w2.heap.size = BK := fun h => lK_R0 h.symm
      have mP0_R0 : BP0 < w2.heap.size := cellBlock cP0_0_2
      have lP0_R0 : ¬ BP0 = w2.heap.size := blkNe cP0_0_2
      have lR0_P0 : ¬ w2.heap.size = BP0 := fun h => lP0_R0 h.symm
      go_wp2_with fail
      go_at_call 18
      refine (sub_is x1 x2 x3 x4 (s1, t1, e1) HS1.out _ (HT.out.grown (Grown.alloc G2.out _ _))).mono ?_
      rintro _ w3 ⟨rfl, hg3⟩
      obtain ⟨G3, cR0_0_3, cR0_1_3, K3⟩ := fracKeep G2.out hg3
      have cK_0_3 := grownSome K3.out cK_0_2
      have cK_1_3 := grownSome K3.out cK_1_2
      have cK_2_3 := grownSome K3.out cK_2_2
      have cK_3_3 := grownSome K3.out cK_3_2
      have cP0_0_3 := grownSome K3.out cP0_0_2
      have cP0_1_3 := grownSome K3.out cP0_1_2
      clear cK_0_2 cK_1_2 cK_2_2 cK_3_2 cP0_0_2 cP0_1_2
      clear hg3 K3
      clear HT2
      have HT3 : Hid (Tab w3) := Lib.hid (HT.out.grown G3.out)
      generalize w2.heap.size = BR0 at *
      have mK_P1 : BK < w3.heap.size := cellBlock cK_0_3
      have lK_P1 : ¬ BK = w3.heap.size := blkNe cK_0_3
      have lP1_K : ¬ w3.heap.size = BK := fun h => lK_P1 h.symm
      have mP0_P1 : BP0 < w3.heap.size := cellBlock cP0_0_3
      have lP0_P1 : ¬ BP0 = w3.heap.size := blkNe cP0_0_3
      have lP1_P0 : ¬ w3.heap.size = BP0 := fun h => lP0_P1 h.symm
      have mR0_P1 : BR0 < w3.heap.size := cellBlock cR0_0_3
      have lR0_P1 : ¬ BR0 = w3.heap.size := blkNe cR0_0_3
      have lP1_R0 : ¬ w3.heap.size = BR0 := fun h => lR0_P1 h.symm
      go_wp2_with fail
      go_at_call 19
      refine (refsub_is x1 x2 x3 x4 (s1, t1, e1) HS1.out _).mono ?_
      rintro _ w4 ⟨rfl, hg4⟩
      obtain ⟨G4, cP1_0_4, cP1_1_4, K4⟩ := fracKeep G3.out hg4
      have cK_0_4 := grownSome K4.out cK_0_3
      have cK_1_4 := grownSome K4.out cK_1_3
      have cK_2_4 := grownSome K4.out cK_2_3
      have cK_3_4 := grownSome K4.out cK_3_3
      have cP0_0_4 := grownSome K4.out cP0_0_3
      have cP0_1_4 := grownSome K4.out cP0_1_3
      have cR0_0_4 := grownSome K4.out cR0_0_3
      have cR0_1_4 := grownSome K4.out cR0_1_3
      clear cK_0_3 cK_1_3 cK_2_3 cK_3_3 cP0_0_3 cP0_1_3 cR0_0_3 cR0_1_3
      clear hg4 K4
      clear HT3
      have HT4 : Hid (Tab w4) := Lib.hid (HT.out.grown G4.out)
      generalize w3.heap.size = BP1 at *
      have mK_R1 : BK < w4.heap.size := cellBlock cK_0_4
      have lK_R1 : ¬ BK = w4.heap.size := blkNe cK_0_4
      have lR1_K : ¬ w4.heap.size = BK := fun h => lK_R1 h.symm
      have mP0_R1 : BP0 < w4.heap.size := cellBlock cP0_0_4
      have lP0_R1 : ¬ BP0 = w4.heap.size := blkNe cP0_0_4
      have lR1_P0 : ¬ w4.heap.size = BP0 := fun h => lP0_R1 h.symm
      have mR0_R1 : BR0 < w4.heap.size := cellBlock cR0_0_4
      have lR0_R1 : ¬ BR0 = w4.heap.size := blkNe cR0_0_4
      have lR1_R0 : ¬ w4.heap.size = BR0 := fun h => lR0_R1 h.symm
      have mP1_R1 : BP1 < w4.heap.size := cellBlock cP1_0_4
      have lP1_R1 : ¬ BP1 = w4.heap.size := blkNe cP1_0_4
      have lR1_P1 : ¬ w4.heap.size = BP1 := fun h => lP1_R1 h.symm
      go_wp2_with fail
      go_at_call 20
      refine (mul_is x1 x2 x3 x4 (s2, t2, e2) HS2.out _ (HT.out.grown (Grown.alloc G4.out _ _))).mono ?_
      rintro _ w5 ⟨rfl, hg5⟩
      obtain ⟨G5, cR1_0_5, cR1_1_5, K5⟩ := fracKeep G4.out hg5
      have cK_0_5 := grownSome K5.out cK_0_4
      have cK_1_5 := grownSome K5.out cK_1_4
      have cK_2_5 := grownSome K5.out cK_2_4
      have cK_3_5 := grownSome K5.out cK_3_4
      have cP0_0_5 := grownSome K5.out cP0_0_4
      have cP0_1_5 := grownSome K5.out cP0_1_4
      have cR0_0_5 := grownSome K5.out cR0_0_4
      have cR0_1_5 := grownSome K5.out cR0_1_4
      have cP1_0_5 := grownSome K5.out cP1_0_4
      have cP1_1_5 := grownSome K5.out cP1_1_4
      clear cK_0_4 cK_1_4 cK_2_4 cK_3_4 cP0_0_4 cP0_1_4 cR0_0_4 cR0_1_4 cP1_0_4 cP1_1_4
      clear hg5 K5
      clear HT4
      have HT5 : Hid (Tab w5) := Lib.hid (HT.out.grown G5.out)
      generalize w4.heap.size = BR1 at *
      have mK_P2 : BK < w5.heap.size := cellBlock cK_0_5
      have lK_P2 : ¬ BK = w5.heap.size := blkNe cK_0_5
      have lP2_K : ¬ w5.heap.size = BK := fun h => lK_P2 h.symm
      have mP0_P2 : BP0 < w5.heap.size := cellBlock cP0_0_5
      have lP0_P2 : ¬ BP0 = w5.heap.size := blkNe cP0_0_5
      have lP2_P0 : ¬ w5.heap.size = BP0 := fun h => lP0_P2 h.symm
      have mR0_P2 : BR0 < w5.heap.size := cellBlock cR0_0_5
      have lR0_P2 : ¬ BR0 = w5.heap.size := blkNe cR0_0_5
      have lP2_R0 : ¬ w5.heap.size = BR0 := fun h => lR0_P2 h.symm
      have mP1_P2 : BP1 < w5.heap.size := cellBlock cP1_0_5
      have lP1_P2 : ¬ BP1 = w5.heap.size := blkNe cP1_0_5
      have lP2_P1 : ¬ w5.heap.size = BP1 := fun h => lP1_P2 h.symm
      have mR1_P2 : BR1 < w5.heap.size := cellBlock cR1_0_5
      have lR1_P2 : ¬ BR1 = w5.heap.size := blkNe cR1_0_5
      have lP2_R1 : ¬ w5.heap.size = BR1 := fun h => lR1_P2 h.symm
      go_wp2_with fail
      go_at_call 21
      refine (refmul_is x1 x2 x3 x4 (s2, t2, e2) HS2.out _).mono ?_
      rintro _ w6 ⟨rfl, hg6⟩
      obtain ⟨G6, cP2_0_6, cP2_1_6, K6⟩ := fracKeep G5.out hg6
      have cK_0_6 := grownSome K6.out cK_0_5
      have cK_1_6 := grownSome K6.out cK_1_5
      have cK_2_6 := grownSome K6.out cK_2_5
      have cK_3_6 := grownSome K6.out cK_3_5
      have cP0_0_6 := grownSome K6.out cP0_0_5
      have cP0_1_6 := grownSome K6.out cP0_1_5
      have cR0_0_6 := grownSome K6.out cR0_0_5
      have cR0_1_6 := grownSome K6.out cR0_1_5
      have cP1_0_6 := grownSome K6.out cP1_0_5
      have cP1_1_6 := grownSome K6.out cP1_1_5
      have cR1_0_6 := grownSome K6.out cR1_0_5
      have cR1_1_6 := grownSome K6.out cR1_1_5
      clear cK_0_5 cK_1_5 cK_2_5 cK_3_5 cP0_0_5 cP0_1_5 cR0_0_5 cR0_1_5 cP1_0_5 cP1_1_5 cR1_0_5 cR1_1_5
      clear hg6 K6
      clear HT5
      have HT6 : Hid (Tab w6) := Lib.hid (HT.out.grown G6.out)
      generalize w5.heap.size = BP2 at *
      have mK_R2 : BK < w6.heap.size := cellBlock cK_0_6
      have lK_R2 : ¬ BK = w6.heap.size := blkNe cK_0_6
      have lR2_K : ¬ w6.heap.size = BK := fun h => lK_R2 h.symm
      have mP0_R2 : BP0 < w6.heap.size := cellBlock cP0_0_6
      have lP0_R2 : ¬ BP0 = w6.heap.size := blkNe cP0_0_6
      have lR2_P0 : ¬ w6.heap.size = BP0 := fun h => lP0_R2 h.symm
      have mR0_R2 : BR0 < w6.heap.size := cellBlock cR0_0_6
      have lR0_R2 : ¬ BR0 = w6.heap.size := blkNe cR0_0_6
      have lR2_R0 : ¬ w6.heap.size = BR0 := fun h => lR0_R2 h.symm
      have mP1_R2 : BP1 < w6.heap.size := cellBlock cP1_0_6
      have lP1_R2 : ¬ BP1 = w6.heap.size := blkNe cP1_0_6
      have lR2_P1 : ¬ w6.heap.size = BP1 := fun h => lP1_R2 h.symm
      have mR1_R2 : BR1 < w6.heap.size := cellBlock cR1_0_6
      have lR1_R2 : ¬ BR1 = w6.heap.size := blkNe cR1_0_6
      have lR2_R1 : ¬ w6.heap.size = BR1 := fun h => lR1_R2 h.symm
      have mP2_R2 : BP2 < w6.heap.size := cellBlock cP2_0_6
      have lP2_R2 : ¬ BP2 = w6.heap.size := blkNe cP2_0_6
      have lR2_P2 : ¬ w6.heap.size = BP2 := fun h => lP2_R2 h.symm
      go_wp2_with fail
      go_at_call 22
      refine (div_is x1 x2 x3 x4 (s3, t3, e3) HS3.out _ (HT.out.grown (Grown.alloc G6.out _ _))).mono ?_
      rintro _ w7 ⟨rfl, hg7⟩
      obtain ⟨G7, cR2_0_7, cR2_1_7, K7⟩ := fracKeep G6.out hg7
      have cK_0_7 := grownSome K7.out cK_0_6
      have cK_1_7 := grownSome K7.out cK_1_6
      have cK_2_7 := grownSome K7.out cK_2_6
      have cK_3_7 := grownSome K7.out cK_3_6
      have cP0_0_7 := grownSome K7.out cP0_0_6
      have cP0_1_7 := grownSome K7.out cP0_1_6
      have cR0_0_7 := grownSome K7.out cR0_0_6
      have cR0_1_7 := grownSome K7.out cR0_1_6
      have cP1_0_7 := grownSome K7.out cP1_0_6
      have cP1_1_7 := grownSome K7.out cP1_1_6
      have cR1_0_7 := grownSome K7.out cR1_0_6
      have cR1_1_7 := grownSome K7.out cR1_1_6
      have cP2_0_7 := grownSome K7.out cP2_0_6
      have cP2_1_7 := grownSome K7.out cP2_1_6
      clear cK_0_6 cK_1_6 cK_2_6 cK_3_6 cP0_0_6 cP0_1_6 cR0_0_6 cR0_1_6 cP1_0_6 cP1_1_6 cR1_0_6 cR1_1_6 cP2_0_6 cP2_1_6
      clear hg7 K7
      clear HT6
      have HT7 : Hid (Tab w7) := Lib.hid (HT.out.grown G7.out)
      generalize w6.heap.size = BR2 at *
      have mK_P3 : BK < w7.heap.size := cellBlock cK_0_7
      have lK_P3 : ¬ BK = w7.heap.size := blkNe cK_0_7
      have lP3_K : ¬ w7.heap.size = BK := fun h => lK_P3 h.symm
      have mP0_P3 : BP0 < w7.heap.size := cellBlock cP0_0_7
      have lP0_P3 : ¬ BP0 = w7.heap.size := blkNe cP0_0_7
      have lP3_P0 : ¬ w7.heap.size = BP0 := fun h => lP0_P3 h.symm
      have mR0_P3 : BR0 < w7.heap.size := cellBlock cR0_0_7
      have lR0_P3 : ¬ BR0 = w7.heap.size := blkNe cR0_0_7
      have lP3_R0 : ¬ w7.heap.size = BR0 := fun h => lR0_P3 h.symm
      have mP1_P3 : BP1 < w7.heap.size := cellBlock cP1_0_7
      have lP1_P3 : ¬ BP1 = w7.heap.size := blkNe cP1_0_7
      have lP3_P1 : ¬ w7.heap.size = BP1 := fun h => lP1_P3 h.symm
      have mR1_P3 : BR1 < w7.heap.size := cellBlock cR1_0_7
      have lR1_P3 : ¬ BR1 = w7.heap.size := blkNe cR1_0_7
      have lP3_R1 : ¬ w7.heap.size = BR1 := fun h => lR1_P3 h.symm
      have mP2_P3 : BP2 < w7.heap.size := cellBlock cP2_0_7
      have lP2_P3 : ¬ BP2 = w7.heap.size := blkNe cP2_0_7
      have lP3_P2 : ¬ w7.heap.size = BP2 := fun h => lP2_P3 h.symm
      have mR2_P3 : BR2 < w7.heap.size := cellBlock cR2_0_7
      have lR2_P3 : ¬ BR2 = w7.heap.size := blkNe cR2_0_7
      have lP3_R2 : ¬ w7.heap.size = BR2 := fun h => lR2_P3 h.symm
      go_wp2_with fail
      go_at_call 23
      refine (refdiv_is x1 x2 x3 x4 (s3, t3, e3) HS3.out _).mono ?_
      rintro _ w8 ⟨rfl, hg8⟩
      obtain ⟨G8, cP3_0_8, cP3_1_8, K8⟩ := fracKeep G7.out hg8
      have cK_0_8 := grownSome K8.out cK_0_7
      have cK_1_8 := grownSome K8.out cK_1_7
      have cK_2_8 := grownSome K8.out cK_2_7
      have cK_3_8 := grownSome K8.out cK_3_7
      have cP0_0_8 := grownSome K8.out cP0_0_7
      have cP0_1_8 := grownSome K8.out cP0_1_7
      have cR0_0_8 := grownSome K8.out cR0_0_7
      have cR0_1_8 := grownSome K8.out cR0_1_7
      have cP1_0_8 := grownSome K8.out cP1_0_7
      have cP1_1_8 := grownSome K8.out cP1_1_7
      have cR1_0_8 := grownSome K8.out cR1_0_7
      have cR1_1_8 := grownSome K8.out cR1_1_7
      have cP2_0_8 := grownSome K8.out cP2_0_7
      have cP2_1_8 := grownSome K8.out cP2_1_7
      have cR2_0_8 := grownSome K8.out cR2_0_7
      have cR2_1_8 := grownSome K8.out cR2_1_7
      clear cK_0_7 cK_1_7 cK_2_7 cK_3_7 cP0_0_7 cP0_1_7 cR0_0_7 cR0_1_7 cP1_0_7 cP1_1_7 cR1_0_7 cR1_1_7 cP2_0_7 cP2_1_7 cR2_0_7 cR2_1_7
      clear hg8 K8
      clear HT7
      have HT8 : Hid (Tab w8) := Lib.hid (HT.out.grown G8.out)
      generalize w7.heap.size = BP3 at *
      have mK_R3 : BK < w8.heap.size := cellBlock cK_0_8
      have lK_R3 : ¬ BK = w8.heap.size := blkNe cK_0_8
      have lR3_K : ¬ w8.heap.size = BK := fun h => lK_R3 h.symm
      have mP0_R3 : BP0 < w8.heap.size := cellBlock cP0_0_8
      have lP0_R3 : ¬ BP0 = w8.heap.size := blkNe cP0_0_8
      have lR3_P0 : ¬ w8.heap.size = BP0 := fun h => lP0_R3 h.symm
      have mR0_R3 : BR0 < w8.heap.size := cellBlock cR0_0_8
      have lR0_R3 : ¬ BR0 = w8.heap.size := blkNe cR0_0_8
      have lR3_R0 : ¬ w8.heap.size = BR0 := fun h => lR0_R3 h.symm
      have mP1_R3 : BP1 < w8.heap.size := cellBlock cP1_0_8
      have lP1_R3 : ¬ BP1 = w8.heap.size := blkNe cP1_0_8
      have lR3_P1 : ¬ w8.heap.size = BP1 := fun h => lP1_R3 h.symm
      have mR1_R3 : BR1 < w8.heap.size := cellBlock cR1_0_8
      have lR1_R3 : ¬ BR1 = w8.heap.size := blkNe cR1_0_8
      have lR3_R1 : ¬ w8.heap.size = BR1 := fun h => lR1_R3 h.symm
      have mP2_R3 : BP2 < w8.heap.size := cellBlock cP2_0_8
      have lP2_R3 : ¬ BP2 = w8.heap.size := blkNe cP2_0_8
      have lR3_P2 : ¬ w8.heap.size = BP2 := fun h => lP2_R3 h.symm
      have mR2_R3 : BR2 < w8.heap.size := cellBlock cR2_0_8
      have lR2_R3 : ¬ BR2 = w8.heap.size := blkNe cR2_0_8
      have lR3_R2 : ¬ w8.heap.size = BR2 := fun h => lR2_R3 h.symm
      have mP3_R3 : BP3 < w8.heap.size := cellBlock cP3_0_8
      have lP3_R3 : ¬ BP3 = w8.heap.size := blkNe cP3_0_8
      have lR3_P3 : ¬ w8.heap.size = BP3 := fun h => lP3_R3 h.symm
      go_wp2
      go_roundw
      case rel => exact ⟨k + 1, by omega, by omega, rfl, Lib.hid (Grown.alloc G8.out _ _)⟩
      case measure => simp [intOf]; omega
    · -- the end
      obtain rfl : k = 4 := by omega
      go_wp2_with (go_at_call 14; ((with_reducible refine (works_true _ (HT.out.grown G0.out)).mono ?_); rintro e w1 ⟨rfl, hg1⟩))
      go_ret
      exact ⟨rfl, grownTrans G0.out hg1⟩

end Go.Proofs.YtiibpdameldblaaDoor
