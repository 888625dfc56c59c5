/- What the draft's Frame returns: some valid frame. -/
import Derived.Test.YtmgnmkdjphnaoaaFDrAt
import Derived.Test.YtmgnmkdjphnaoaaFRefEnc
import Derived.Test.YtmgnmkdjphnaoaaTail
import Derived.Test.YtmgnmkdjphnaoaaTail
import Derived.Deep.Cut
import Derived.Deep.DeepCutAuto
import Derived.Deep.RegionWith
import Derived.RegionTactic
namespace Go.Proofs.Ytmgnmkdjphnaoaa
open Go Go.RowKit

theorem or_any {p q : Prop} (h : p ∨ q) : p ∨ q := h
theorem nil_beq (z : ByteArray) : (z.toList == []) = decide (z.size = 0) := by
  rw [ByteArray.toList_eq]
  have hl : z.data.toList.length = z.size := rfl
  rw [← hl]
  cases z.data.toList with
  | nil => rfl
  | cons a l => rfl
set_option maxRecDepth 100000 in
set_option maxHeartbeats 40000000 in
theorem draft_any (a b l g k q : Int) (x : ByteArray) (w : World) (ha : 0 ≤ a ∧ a < 65536) (hb : 0 ≤ b ∧ b < 65536) (hl : 0 ≤ l ∧ l < 65536) (hg : 0 ≤ g ∧ g < 256) (hk : 0 ≤ k ∧ k < 256) (hq : 0 ≤ q ∧ q < 65536) (hx : x.size ≤ maxLen) : Calls Try.prog 9 #[.agg #[.int .u16 a, .int .u16 b, .int .u16 l, .int .u8 g, .int .u8 k, .int .u16 q, .string x]] w (SomeF w) := by
  unfold maxLen at hx
  obtain ⟨j, hj⟩ : ∃ j : Nat, min x.size 100 = j := ⟨_, rfl⟩
  have hmn : min (x.size : Int) 100 = (j : Int) := by omega
  have hjx : (j : Int) ≤ (x.size : Int) := by omega
  obtain ⟨y, hy⟩ : ∃ y, x.extract 0 j = y := ⟨_, rfl⟩
  have hys : y.size ≤ 100 := by rw [← hy, ByteArray.size_extract]; omega
  obtain ⟨D, hDD⟩ : ∃ D, a * 4294967296 = D := ⟨_, rfl⟩
  have hD : 0 ≤ D ∧ D ≤ 281474976710655 := by omega
  have HMN := Lib.hid hmn
  have HJX := Lib.hid hjx
  have HY := Lib.hid hy
  have HDD := Lib.hid hDD
  have HA0 := Lib.hid ha
  have HB0 := Lib.hid hb
  have HD0 := Lib.hid hD
  clear hmn hjx hy hj hDD
  go_enter Try.func9, Try.ntmps9
  go_upto_region 1 with fail
  have hA : DrAt ((w.alloc (.cells #[.int .u16 a, .int .u16 b, .int .u16 l, .int .u8 g, .int .u8 k, .int .u16 q, .string x] 26)).alloc (.cells #[.int .i64 0, .int .i64 0, .bool false, .int .i64 0, .int .i64 0, .bool false, .int .i64 0, .int .i64 0, .string ⟨#[]⟩] 23)) w.heap.size a b l g k q x := keepRow ((Keep.refl _).alloc _) (heap_alloc_new w _)
  have hc : FrAt ((w.alloc (.cells #[.int .u16 a, .int .u16 b, .int .u16 l, .int .u8 g, .int .u8 k, .int .u16 q, .string x] 26)).alloc (.cells #[.int .i64 0, .int .i64 0, .bool false, .int .i64 0, .int .i64 0, .bool false, .int .i64 0, .int .i64 0, .string ⟨#[]⟩] 23)) (w.heap.size + 1) 0 0 false 0 0 false 0 0 ⟨#[]⟩ := by
    have := heap_alloc_new (w.alloc (.cells #[.int .u16 a, .int .u16 b, .int .u16 l, .int .u8 g, .int .u8 k, .int .u16 q, .string x] 26)) (.cells #[.int .i64 0, .int .i64 0, .bool false, .int .i64 0, .int .i64 0, .bool false, .int .i64 0, .int .i64 0, .string ⟨#[]⟩] 23)
    rw [show (w.alloc (.cells #[.int .u16 a, .int .u16 b, .int .u16 l, .int .u8 g, .int .u8 k, .int .u16 q, .string x] 26)).heap.size = w.heap.size + 1 by simp] at this
    exact this
  have K : Hid (Keep w ((w.alloc (.cells #[.int .u16 a, .int .u16 b, .int .u16 l, .int .u8 g, .int .u8 k, .int .u16 q, .string x] 26)).alloc (.cells #[.int .i64 0, .int .i64 0, .bool false, .int .i64 0, .int .i64 0, .bool false, .int .i64 0, .int .i64 0, .string ⟨#[]⟩] 23))) := Lib.hid (((Keep.refl w).alloc (.cells #[.int .u16 a, .int .u16 b, .int .u16 l, .int .u8 g, .int .u8 k, .int .u16 q, .string x] 26)).alloc (.cells #[.int .i64 0, .int .i64 0, .bool false, .int .i64 0, .int .i64 0, .bool false, .int .i64 0, .int .i64 0, .string ⟨#[]⟩] 23))
  have HNE : Hid (w.heap.size ≤ w.heap.size + 1) := Lib.hid (by omega)
  generalize ((w.alloc (.cells #[.int .u16 a, .int .u16 b, .int .u16 l, .int .u8 g, .int .u8 k, .int .u16 q, .string x] 26)).alloc (.cells #[.int .i64 0, .int .i64 0, .bool false, .int .i64 0, .int .i64 0, .bool false, .int .i64 0, .int .i64 0, .string ⟨#[]⟩] 23)) = w0 at *
  generalize w.heap.size + 1 = C at *
  obtain ⟨A, hAA⟩ : ∃ A, w.heap.size = A := ⟨_, rfl⟩
  rw [hAA] at hA HNE ⊢
  replace HNE : Hid (w.heap.size ≤ C) := Lib.hid (by rw [hAA]; exact HNE.out)
  clear hAA
  obtain ⟨q0, q1, -, -, -, -, q6⟩ := dr_cells hA
  refine region_tail (h := 16) (W0 := w0) (listF [fun v ww => v = .pointer (some ⟨A, 0, none⟩), fun v ww => v = .int .u16 a, fun v ww => v = .int .i64 a, fun v ww => v = .int .i64 D, fun v ww => v = .pointer (some ⟨A, 1, none⟩), fun v ww => v = .int .u16 b, fun v ww => v = .int .i64 b, fun v ww => v = .pointer (some ⟨A, 6, none⟩), fun v ww => v = .string x, fun v ww => v = .pointer (some ⟨A, 6, none⟩), fun v ww => v = .string x, fun v ww => v = .int .i64 (x.size : Int), fun v ww => v = .int .i64 (j : Int), fun v ww => v = .string y, fun v ww => v = .agg #[.int .i64 D, .int .i64 b, .bool false, .int .i64 0, .int .i64 0, .bool false, .int .i64 0, .int .i64 0, .string y], fun v ww => ∃ B, v = .pointer (some ⟨B, 0, none⟩) ∧ w0.heap.size ≤ B ∧ FrAt ww B 0 0 false 0 0 false 0 0 ⟨#[]⟩]) (listF_stable _ ⟨fun _ _ _ _ h => h, fun _ _ _ _ h => h, fun _ _ _ _ h => h, fun _ _ _ _ h => h, fun _ _ _ _ h => h, fun _ _ _ _ h => h, fun _ _ _ _ h => h, fun _ _ _ _ h => h, fun _ _ _ _ h => h, fun _ _ _ _ h => h, fun _ _ _ _ h => h, fun _ _ _ _ h => h, fun _ _ _ _ h => h, fun _ _ _ _ h => h, fun _ _ _ _ h => h, fun _ _ _ hk ⟨B, h1, h2, h3⟩ => ⟨B, h1, h2, fr_k h3 hk⟩, trivial⟩) (by kernel_rfl) (by kernel_rfl) (by kernel_rfl) (by kernel_rfl) (by kernel_rfl) (by kernel_rfl) (Keep.refl _) ?done1 ?steps1
  case done1 =>
    intro T1 wz1 hJ
    obtain ⟨x0, t0, f0⟩ := hJ.fact 0 4 (by decide) (by kernel_rfl)
    obtain rfl : x0 = .pointer (some ⟨A, 0, none⟩) := f0
    obtain ⟨x1, t1, f1⟩ := hJ.fact 1 5 (by decide) (by kernel_rfl)
    obtain rfl : x1 = .int .u16 a := f1
    obtain ⟨x2, t2, f2⟩ := hJ.fact 2 6 (by decide) (by kernel_rfl)
    obtain rfl : x2 = .int .i64 a := f2
    obtain ⟨x3, t3, f3⟩ := hJ.fact 3 7 (by decide) (by kernel_rfl)
    obtain rfl : x3 = .int .i64 D := f3
    obtain ⟨x4, t4, f4⟩ := hJ.fact 4 8 (by decide) (by kernel_rfl)
    obtain rfl : x4 = .pointer (some ⟨A, 1, none⟩) := f4
    obtain ⟨x5, t5, f5⟩ := hJ.fact 5 9 (by decide) (by kernel_rfl)
    obtain rfl : x5 = .int .u16 b := f5
    obtain ⟨x6, t6, f6⟩ := hJ.fact 6 10 (by decide) (by kernel_rfl)
    obtain rfl : x6 = .int .i64 b := f6
    obtain ⟨x7, t7, f7⟩ := hJ.fact 7 11 (by decide) (by kernel_rfl)
    obtain rfl : x7 = .pointer (some ⟨A, 6, none⟩) := f7
    obtain ⟨x8, t8, f8⟩ := hJ.fact 8 12 (by decide) (by kernel_rfl)
    obtain rfl : x8 = .string x := f8
    obtain ⟨x9, t9, f9⟩ := hJ.fact 9 13 (by decide) (by kernel_rfl)
    obtain rfl : x9 = .pointer (some ⟨A, 6, none⟩) := f9
    obtain ⟨x10, t10, f10⟩ := hJ.fact 10 14 (by decide) (by kernel_rfl)
    obtain rfl : x10 = .string x := f10
    obtain ⟨x11, t11, f11⟩ := hJ.fact 11 15 (by decide) (by kernel_rfl)
    obtain rfl : x11 = .int .i64 (x.size : Int) := f11
    obtain ⟨x12, t12, f12⟩ := hJ.fact 12 16 (by decide) (by kernel_rfl)
    obtain rfl : x12 = .int .i64 (j : Int) := f12
    obtain ⟨x13, t13, f13⟩ := hJ.fact 13 17 (by decide) (by kernel_rfl)
    obtain rfl : x13 = .string y := f13
    obtain ⟨x14, t14, f14⟩ := hJ.fact 14 18 (by decide) (by kernel_rfl)
    obtain rfl : x14 = .agg #[.int .i64 D, .int .i64 b, .bool false, .int .i64 0, .int .i64 0, .bool false, .int .i64 0, .int .i64 0, .string y] := f14
    obtain ⟨x15, t15, f15⟩ := hJ.fact 15 3 (by decide) (by kernel_rfl)
    replace f15 : ∃ B, x15 = .pointer (some ⟨B, 0, none⟩) ∧ w0.heap.size ≤ B ∧ FrAt wz1 B 0 0 false 0 0 false 0 0 ⟨#[]⟩ := f15
    have hfr := hJ.frameTo [(4, .pointer (some ⟨A, 0, none⟩)), (5, .int .u16 a), (6, .int .i64 a), (7, .int .i64 D), (8, .pointer (some ⟨A, 1, none⟩)), (9, .int .u16 b), (10, .int .i64 b), (11, .pointer (some ⟨A, 6, none⟩)), (12, .string x), (13, .pointer (some ⟨A, 6, none⟩)), (14, .string x), (15, .int .i64 (x.size : Int)), (16, .int .i64 (j : Int)), (17, .string y), (18, .agg #[.int .i64 D, .int .i64 b, .bool false, .int .i64 0, .int .i64 0, .bool false, .int .i64 0, .int .i64 0, .string y]), (3, x15)] (by simp [t0, t1, t2, t3, t4, t5, t6, t7, t8, t9, t10, t11, t12, t13, t14, t15]) (by kernel_rfl)
    have G := hJ.keep
    clear hJ t0 t1 t2 t3 t4 t5 t6 t7 t8 t9 t10 t11 t12 t13 t14 t15
    rw [hfr]
    clear hfr T1
    simp only [List.foldl_cons, List.foldl_nil, List.setIfInBounds_toArray, List.set_cons_zero, List.set_cons_succ, List.drop_succ_cons, List.drop_zero]
    obtain ⟨B, rfl, hB, hb0⟩ := f15
    have hA' : DrAt wz1 A a b l g k q x := keepRow G hA
    have hc' := fr_k hc G
    have HNB : Hid (A ≠ B ∧ C ≠ B ∧ w.heap.size ≤ B ∧ w.heap.size ≤ C) := Lib.hid ⟨by have := heap_lt hA; omega, by have := heap_lt hc; omega, Nat.le_trans K.out.size hB, HNE.out⟩
    have K1 := Lib.hid (K.out.trans G)
    clear hA hc K G hB HNE q0 q1 q6 HMN HJX HY HDD HA0 HB0 HD0
    refine wpList_store_row rfl 23 _ _ rfl B rfl 23 _ #[.int .i64 D, .int .i64 b, .bool false, .int .i64 0, .int .i64 0, .bool false, .int .i64 0, .int .i64 0, .string y] rfl hb0 rfl (fr_one _ _ _ _ _ _ _ _ _) info_frame ?_
    have hb1 : FrAt (wz1.setRow B #[.int .i64 D, .int .i64 b, .bool false, .int .i64 0, .int .i64 0, .bool false, .int .i64 0, .int .i64 0, .string y]) B D b false 0 0 false 0 0 y := setRow_heap wz1 B _ _ _ _ hb0
    have hA : DrAt (wz1.setRow B #[.int .i64 D, .int .i64 b, .bool false, .int .i64 0, .int .i64 0, .bool false, .int .i64 0, .int .i64 0, .string y]) A a b l g k q x := (setRow_other wz1 B A _ HNB.out.1).trans hA'
    have hc : FrAt (wz1.setRow B #[.int .i64 D, .int .i64 b, .bool false, .int .i64 0, .int .i64 0, .bool false, .int .i64 0, .int .i64 0, .string y]) C 0 0 false 0 0 false 0 0 ⟨#[]⟩ := (setRow_other wz1 B C _ HNB.out.2.1).trans hc'
    have K := Lib.hid (K1.out.setRow HNB.out.2.2.1 #[.int .i64 D, .int .i64 b, .bool false, .int .i64 0, .int .i64 0, .bool false, .int .i64 0, .int .i64 0, .string y])
    clear hb0 hA' hc' K1
    generalize wz1.setRow B #[.int .i64 D, .int .i64 b, .bool false, .int .i64 0, .int .i64 0, .bool false, .int .i64 0, .int .i64 0, .string y] = w1 at *
    have HNE := HNB
    clear HNB
    have hb := hb1
    clear hb1
    have c0 := dr_cells hA
    obtain ⟨-, -, -, a3, a4, -, -⟩ := c0
    obtain ⟨r2, h2⟩ : ∃ r, k % 2 = r := ⟨_, rfl⟩
    have h2t : k.tmod 2 = r2 := by rw [Int.tmod_eq_emod_of_nonneg hk.1, h2]
    go_upto_if 22 with fail
    go_cut [] (fun wx => ∃ (T : Bool) (P V : Int), Hid (0 ≤ P ∧ P ≤ only T 7 ∧ 0 ≤ V ∧ V ≤ only T 4094) ∧ Hid (FrAt wx B D b T P V false 0 0 y) ∧ Hid (DrAt wx A a b l g k q x) ∧ Hid (FrAt wx C 0 0 false 0 0 false 0 0 ⟨#[]⟩) ∧ Hid (Keep w wx))
    case first =>
      by_cases hr : r2 = 1
      · have hrb : (r2 == 1) = true := by simp [hr]
        obtain ⟨P, hP⟩ : ∃ P, g % 8 = P := ⟨_, rfl⟩
        have hPt : g.tmod 8 = P := by rw [Int.tmod_eq_emod_of_nonneg hg.1, hP]
        obtain ⟨V, hV⟩ : ∃ V, g * 16 = V := ⟨_, rfl⟩
        have hV2 : wrap64 V = V := by unfold wrap64; omega
        have HPV : Hid (0 ≤ P ∧ P ≤ only true 7 ∧ 0 ≤ V ∧ V ≤ only true 4094) := Lib.hid (by unfold only; simp only [if_true]; omega)
        obtain ⟨-, -, b2, b3, b4, -, -, -, -⟩ := fr_cells hb
        have f2 := fr_free hb 2
        have f3 := fr_free hb 3
        have f4 := fr_free hb 4
        obtain ⟨-, -, -, d3, -, -, -⟩ := dr_cells (show DrAt w1.drew A a b l g k q x from hA)
        obtain ⟨-, -, e2, e3, e4, -, -, -, -⟩ := fr_cells (show FrAt w1.drew B D b false 0 0 false 0 0 y from hb)
        have g2 := fr_free (show FrAt w1.drew B D b false 0 0 false 0 0 y from hb) 2
        have g3 := fr_free (show FrAt w1.drew B D b false 0 0 false 0 0 y from hb) 3
        have g4 := fr_free (show FrAt w1.drew B D b false 0 0 false 0 0 y from hb) 4
        have hAB : ¬ A = B := HNE.out.1
        have hBA : ¬ B = A := fun c => HNE.out.1 c.symm
        go_upto_region 3 with fail
        go_region
        go_wp2
        go_meet
        have hkx := keepX_tag w1 B P V
        have hb3 := fr_tag hb P V
        have hA3 := dr_x hA hkx HNE.out.1
        have hc3 := fr_x hc hkx HNE.out.2.1
        exact ⟨true, P, V, HPV, Lib.hid hb3, Lib.hid hA3, Lib.hid hc3, Lib.hid (K.out.byX hkx HNE.out.2.2.1).drew⟩
      · have hrb : (r2 == 1) = false := by simp [hr]
        go_wp2
        go_meet
        exact ⟨false, 0, 0, Lib.hid (by unfold only; simp), Lib.hid hb, Lib.hid hA, Lib.hid hc, K⟩
    case rest =>
      clear K
      obtain ⟨T, P, V, HPV, hb, hA, hc, K⟩ := hcut
      replace hb := hb.out
      replace hA := hA.out
      replace hc := hc.out
      clear a3 a4 h2 h2t
      obtain ⟨-, -, -, -, a4, a5, -⟩ := dr_cells hA
      obtain ⟨k2, hk2⟩ : ∃ r, k / 2 = r := ⟨_, rfl⟩
      have hk2t : k.tdiv 2 = k2 := by rw [Int.tdiv_eq_ediv_of_nonneg hk.1, hk2]
      have hk2w : IntKind.u8.wrap k2 = k2 := by rw [u8_wrap]; omega
      obtain ⟨r2, h2⟩ : ∃ r, k2 % 2 = r := ⟨_, rfl⟩
      have h2t : k2.tmod 2 = r2 := by rw [Int.tmod_eq_emod_of_nonneg (by omega), h2]
      go_upto_if 38 with fail
      go_cut [] (fun wx => ∃ (Q : Bool) (N : Int), Hid (0 ≤ N ∧ N ≤ only Q 65535) ∧ Hid (FrAt wx B D b T P V Q N 0 y) ∧ Hid (DrAt wx A a b l g k q x) ∧ Hid (FrAt wx C 0 0 false 0 0 false 0 0 ⟨#[]⟩) ∧ Hid (Keep w wx))
      case first =>
        by_cases hr : r2 = 1
        · have hrb : (r2 == 1) = true := by simp [hr]
          obtain ⟨-, -, -, -, -, b5, b6, -, -⟩ := fr_cells hb
          have f5 := fr_free hb 5
          have f6 := fr_free hb 6
          obtain ⟨-, -, -, -, -, d5, -⟩ := dr_cells (show DrAt wc.drew A a b l g k q x from hA)
          obtain ⟨-, -, -, -, -, e5, e6, -, -⟩ := fr_cells (show FrAt wc.drew B D b T P V false 0 0 y from hb)
          have g5 := fr_free (show FrAt wc.drew B D b T P V false 0 0 y from hb) 5
          have g6 := fr_free (show FrAt wc.drew B D b T P V false 0 0 y from hb) 6
          have HN : Hid (0 ≤ q ∧ q ≤ only true 65535) := Lib.hid (by unfold only; simp only [if_true]; omega)
          have hAB : ¬ A = B := HNE.out.1
          have hBA : ¬ B = A := fun c => HNE.out.1 c.symm
          go_upto_region 5 with fail
          go_region
          go_wp2
          go_meet
          have hkx := keepX_seq wc B q
          have hb3 := fr_seq hb q
          have hA3 := dr_x hA hkx HNE.out.1
          have hc3 := fr_x hc hkx HNE.out.2.1
          exact ⟨true, q, HN, Lib.hid hb3, Lib.hid hA3, Lib.hid hc3, Lib.hid (K.out.byX hkx HNE.out.2.2.1).drew⟩
        · have hrb : (r2 == 1) = false := by simp [hr]
          go_wp2
          go_meet
          exact ⟨false, 0, Lib.hid (by unfold only; simp), Lib.hid hb, Lib.hid hA, Lib.hid hc, K⟩
      case rest =>
        clear K
        obtain ⟨Q, N, HN, hb, hA, hc, K⟩ := hcut
        replace hb := hb.out
        replace hA := hA.out
        replace hc := hc.out
        clear a4 a5 h2 h2t hk2 hk2t hk2w
        obtain ⟨-, -, -, -, a4, -, -⟩ := dr_cells hA
        obtain ⟨k4, hk4⟩ : ∃ r, k / 4 = r := ⟨_, rfl⟩
        have hk4t : k.tdiv 4 = k4 := by rw [Int.tdiv_eq_ediv_of_nonneg hk.1, hk4]
        have hk4w : IntKind.u8.wrap k4 = k4 := by rw [u8_wrap]; omega
        obtain ⟨r4, h4⟩ : ∃ r, k4 % 2 = r := ⟨_, rfl⟩
        have h4t : k4.tmod 2 = r4 := by rw [Int.tmod_eq_emod_of_nonneg (by omega), h4]
        go_upto_if 48 with fail
        go_cut [] (fun wx => ∃ (Y : Int), Hid (tyB Y = true) ∧ Hid (FrAt wx B D b T P V Q N Y y) ∧ Hid (DrAt wx A a b l g k q x) ∧ Hid (FrAt wx C 0 0 false 0 0 false 0 0 ⟨#[]⟩) ∧ Hid (Keep w wx))
        case first =>
          by_cases hr : r4 = 1
          · have hrb : (r4 == 1) = true := by simp [hr]
            obtain ⟨k8, hk8⟩ : ∃ r, k / 8 = r := ⟨_, rfl⟩
            have hk8t : k.tdiv 8 = k8 := by rw [Int.tdiv_eq_ediv_of_nonneg hk.1, hk8]
            have hk8w : IntKind.u8.wrap k8 = k8 := by rw [u8_wrap]; omega
            obtain ⟨r8, h8⟩ : ∃ r, k8 % 4 = r := ⟨_, rfl⟩
            have h8t : k8.tmod 4 = r8 := by rw [Int.tmod_eq_emod_of_nonneg (by omega), h8]
            obtain ⟨-, -, -, -, -, -, -, b7, -⟩ := fr_cells hb
            have f7 := fr_free hb 7
            have h8c : r8 = 0 ∨ r8 = 1 ∨ r8 = 2 ∨ r8 = 3 := by omega
            clear hk4 hk4t hk4w h4 h4t hk8 h8
            obtain ⟨Y, hY, hidx⟩ : ∃ Y, tyB Y = true ∧ ∀ w', (Instr.index 57 (.agg #[.int .i64 2048, .int .i64 8944, .int .i64 65535, .int .i64 1536]) (.int .u8 r8)).run Try.prog w' = .ok (.int .i64 Y) w' := by
              rcases h8c with rfl | rfl | rfl | rfl
              · exact ⟨2048, by decide, fun w' => by kernel_rfl⟩
              · exact ⟨8944, by decide, fun w' => by kernel_rfl⟩
              · exact ⟨65535, by decide, fun w' => by kernel_rfl⟩
              · exact ⟨1536, by decide, fun w' => by kernel_rfl⟩
            have HY := Lib.hid hY
            clear hY h8c
            go_wp2
            go_meet
            have hkx := keepX_set wc B 7 (.int .i64 Y)
            have hb3 := fr_kind hb Y
            exact ⟨Y, HY, Lib.hid hb3, Lib.hid (dr_x hA hkx HNE.out.1), Lib.hid (fr_x hc hkx HNE.out.2.1), Lib.hid (K.out.byX hkx HNE.out.2.2.1)⟩
          · have hrb : (r4 == 1) = false := by simp [hr]
            go_wp2
            go_meet
            exact ⟨0, Lib.hid (by decide), Lib.hid hb, Lib.hid hA, Lib.hid hc, K⟩
        case rest =>
          clear K
          obtain ⟨Y, HY, hb, hA, hc, K⟩ := hcut
          replace hb := hb.out
          replace hA := hA.out
          replace hc := hc.out
          clear a4 hk4 hk4t hk4w h4 h4t
          obtain ⟨L, hL⟩ : ∃ r, l % 1495 = r := ⟨_, rfl⟩
          have hLt : l.tmod 1495 = L := by rw [Int.tmod_eq_emod_of_nonneg hl.1, hL]
          have hLb : 0 ≤ L ∧ L ≤ 1494 := by omega
          have HYS := Lib.hid hys
          have HKB := Lib.hid hk
          have HLB := Lib.hid hLb
          clear hys hL hl hq hg ha
          go_wp2_with fail
          go_loopw [] (fun wr => ∃ z : ByteArray, Hid (z.size ≤ 1494) ∧ Hid (FrAt wr B D b T P V Q N Y z) ∧ Hid (DrAt wr A a b l g k q x) ∧ Hid (FrAt wr C 0 0 false 0 0 false 0 0 ⟨#[]⟩) ∧ Hid (Keep w wr)) (fun wr => 2000 - szOf ((wr.cell? ⟨B, 8, none⟩).getD undef))
          case atStart => exact ⟨y, Lib.hid (by have := HYS.out; omega), Lib.hid hb, Lib.hid hA, Lib.hid hc, K⟩
          case round =>
            clear hb hA hc K HYS
            obtain ⟨z, HZ, hb, hA, hc, K⟩ := hrel
            replace hb := hb.out
            replace hA := hA.out
            replace hc := hc.out
            have hz := HZ.out
            obtain ⟨-, -, a2, -, a4, -, -⟩ := dr_cells hA
            obtain ⟨-, -, -, -, -, -, -, -, b8⟩ := fr_cells hb
            by_cases hgo : 192 ≤ k ∧ 0 < z.size ∧ (z.size : Int) < L
            · obtain ⟨q1, q2, q3⟩ := hgo
              have hd1 : decide (192 ≤ k) = true := decide_eq_true q1
              have hd2 : (z.toList == []) = false := by rw [nil_beq]; exact decide_eq_false (by omega)
              have hd3 : decide ((z.size : Int) < L) = true := decide_eq_true q3
              have f8 := fr_free hb 8
              obtain ⟨n, hn⟩ : ∃ n : Nat, min (2 * z.size) L.toNat = n := ⟨_, rfl⟩
              have hw : wrap64 (2 * (z.size : Int)) = 2 * z.size := by unfold wrap64; omega
              have hmn : min (2 * (z.size : Int)) L = (n : Int) := by omega
              obtain ⟨zz, hzz⟩ : ∃ zz, z ++ z = zz := ⟨_, rfl⟩
              have hzs : zz.size = z.size + z.size := by rw [← hzz, ByteArray.size_append]
              obtain ⟨u, hu⟩ : ∃ u, zz.extract 0 n = u := ⟨_, rfl⟩
              have hus : u.size = n := by rw [← hu, ByteArray.size_extract]; omega
              have hnb : (n : Int) ≤ (z.size : Int) + (z.size : Int) := by omega
              go_wp2
              go_roundw
              case rel =>
                have hkx := keepX_set wr B 8 (.string u)
                exact ⟨u, Lib.hid (by omega), Lib.hid (fr_data hb u), Lib.hid (dr_x hA hkx HNE.out.1), Lib.hid (fr_x hc hkx HNE.out.2.1), Lib.hid (K.out.byX hkx HNE.out.2.2.1)⟩
              case measure =>
                have e1 := (fr_cells (fr_data hb u)).2.2.2.2.2.2.2.2
                rw [e1, b8]
                simp [szOf]
                omega
            · have hFok : Frm.ok ⟨D, b, T, P, V, Q, N, Y, z⟩ = true := by
                have h1 := HPV.out
                have h2 := HN.out
                have h3 := of_decide_eq_true HY.out
                rw [ok_iff]
                dsimp only
                refine ⟨by omega, by omega, h3, ?_⟩
                unfold only
                split <;> omega
              have HF := Lib.hid hFok
              clear hFok hx
              by_cases q1 : 192 ≤ k
              · have hd1 : decide (192 ≤ k) = true := decide_eq_true q1
                by_cases q2 : z.size = 0
                · have hd2 : (z.toList == []) = true := by rw [nil_beq]; exact decide_eq_true q2
                  go_upto_region 10 with fail
                  go_wp2_with (first | (refine wpList_load_row rfl 23 _ rfl B rfl 23 #[.int .i64 D, .int .i64 b, .bool T, .int .i64 P, .int .i64 V, .bool Q, .int .i64 N, .int .i64 Y, .string z] (0, 0) _ hb Try.underlying23 rfl info_frame ?_) | (refine wpList_store_row rfl 23 _ _ rfl C rfl 23 _ #[.int .i64 D, .int .i64 b, .bool T, .int .i64 P, .int .i64 V, .bool Q, .int .i64 N, .int .i64 Y, .string z] rfl hc rfl (fr_one _ _ _ _ _ _ _ _ _) info_frame ?_))
                  have hg' := setRow_heap _ C _ #[.int .i64 D, .int .i64 b, .bool T, .int .i64 P, .int .i64 V, .bool Q, .int .i64 N, .int .i64 Y, .string z] _ _ hc
                  exact bodyPost_ret (v := .agg #[.int .i64 D, .int .i64 b, .bool T, .int .i64 P, .int .i64 V, .bool Q, .int .i64 N, .int .i64 Y, .string z]) (results_cell_row Try.results9 _ _ C _ #[.int .i64 D, .int .i64 b, .bool T, .int .i64 P, .int .i64 V, .bool Q, .int .i64 N, .int .i64 Y, .string z] _ _ rfl hg' Try.underlying23 rfl info_frame) rfl ⟨⟨D, b, T, P, V, Q, N, Y, z⟩, HF.out, rfl, K.out.setRow HNE.out.2.2.2 _⟩
                · have hd2 : (z.toList == []) = false := by rw [nil_beq]; exact decide_eq_false q2
                  have hd3 : decide ((z.size : Int) < L) = false := decide_eq_false (fun c => hgo ⟨q1, by omega, c⟩)
                  go_upto_region 10 with fail
                  go_wp2_with (first | (refine wpList_load_row rfl 23 _ rfl B rfl 23 #[.int .i64 D, .int .i64 b, .bool T, .int .i64 P, .int .i64 V, .bool Q, .int .i64 N, .int .i64 Y, .string z] (0, 0) _ hb Try.underlying23 rfl info_frame ?_) | (refine wpList_store_row rfl 23 _ _ rfl C rfl 23 _ #[.int .i64 D, .int .i64 b, .bool T, .int .i64 P, .int .i64 V, .bool Q, .int .i64 N, .int .i64 Y, .string z] rfl hc rfl (fr_one _ _ _ _ _ _ _ _ _) info_frame ?_))
                  have hg' := setRow_heap _ C _ #[.int .i64 D, .int .i64 b, .bool T, .int .i64 P, .int .i64 V, .bool Q, .int .i64 N, .int .i64 Y, .string z] _ _ hc
                  exact bodyPost_ret (v := .agg #[.int .i64 D, .int .i64 b, .bool T, .int .i64 P, .int .i64 V, .bool Q, .int .i64 N, .int .i64 Y, .string z]) (results_cell_row Try.results9 _ _ C _ #[.int .i64 D, .int .i64 b, .bool T, .int .i64 P, .int .i64 V, .bool Q, .int .i64 N, .int .i64 Y, .string z] _ _ rfl hg' Try.underlying23 rfl info_frame) rfl ⟨⟨D, b, T, P, V, Q, N, Y, z⟩, HF.out, rfl, K.out.setRow HNE.out.2.2.2 _⟩
              · have hd1 : decide (192 ≤ k) = false := decide_eq_false q1
                go_upto_region 10 with fail
                go_wp2_with (first | (refine wpList_load_row rfl 23 _ rfl B rfl 23 #[.int .i64 D, .int .i64 b, .bool T, .int .i64 P, .int .i64 V, .bool Q, .int .i64 N, .int .i64 Y, .string z] (0, 0) _ hb Try.underlying23 rfl info_frame ?_) | (refine wpList_store_row rfl 23 _ _ rfl C rfl 23 _ #[.int .i64 D, .int .i64 b, .bool T, .int .i64 P, .int .i64 V, .bool Q, .int .i64 N, .int .i64 Y, .string z] rfl hc rfl (fr_one _ _ _ _ _ _ _ _ _) info_frame ?_))
                have hg' := setRow_heap _ C _ #[.int .i64 D, .int .i64 b, .bool T, .int .i64 P, .int .i64 V, .bool Q, .int .i64 N, .int .i64 Y, .string z] _ _ hc
                exact bodyPost_ret (v := .agg #[.int .i64 D, .int .i64 b, .bool T, .int .i64 P, .int .i64 V, .bool Q, .int .i64 N, .int .i64 Y, .string z]) (results_cell_row Try.results9 _ _ C _ #[.int .i64 D, .int .i64 b, .bool T, .int .i64 P, .int .i64 V, .bool Q, .int .i64 N, .int .i64 Y, .string z] _ _ rfl hg' Try.underlying23 rfl info_frame) rfl ⟨⟨D, b, T, P, V, Q, N, Y, z⟩, HF.out, rfl, K.out.setRow HNE.out.2.2.2 _⟩
  case steps1 =>
    refine LinSteps.cons (k := 0) ?_ (LinSteps.cons (k := 1) ?_ (LinSteps.cons (k := 2) ?_ (LinSteps.cons (k := 3) ?_ (LinSteps.cons (k := 4) ?_ (LinSteps.cons (k := 5) ?_ (LinSteps.cons (k := 6) ?_ (LinSteps.cons (k := 7) ?_ (LinSteps.cons (k := 8) ?_ (LinSteps.cons (k := 9) ?_ (LinSteps.cons (k := 10) ?_ (LinSteps.cons (k := 11) ?_ (LinSteps.cons (k := 12) ?_ (LinSteps.cons (k := 13) ?_ (LinSteps.cons (k := 14) ?_ (LinSteps.cons (k := 15) ?_ (LinSteps.nil))))))))))))))))
    · -- 0
      refine LinStep.plain rfl ?_
      intro QQ bb T ww hn hJ hd K HK
      have s1 := (hJ.oldSlot 1 (by kernel_rfl))
      simp only [List.getElem?_toArray, List.getElem?_cons_zero, List.getElem?_cons_succ] at s1
      have G := hJ.keep
      clear hJ hd hn
      go_simp
      exact HK.out _ _ (Keep.refl _) rfl
    · -- 1
      refine LinStep.plain rfl ?_
      intro QQ bb T ww hn hJ hd K HK
      obtain ⟨x0, t0, f0⟩ := hJ.dep hd 0 4 (by kernel_rfl) (by kernel_rfl)
      obtain rfl : x0 = .pointer (some ⟨A, 0, none⟩) := f0
      have G := hJ.keep
      clear hJ hd hn
      have k0 := G.some q0
      go_simp
      exact HK.out _ _ (Keep.refl _) rfl
    · -- 2
      refine LinStep.plain rfl ?_
      intro QQ bb T ww hn hJ hd K HK
      obtain ⟨x1, t1, f1⟩ := hJ.dep hd 1 5 (by kernel_rfl) (by kernel_rfl)
      obtain rfl : x1 = .int .u16 a := f1
      have G := hJ.keep
      clear hJ hd hn
      have h0 := HA0.out
      have h1 : IntKind.i64.wrap a = a := IntWalk.i64_in _ (by omega)
      go_simp
      exact HK.out _ _ (Keep.refl _) rfl
    · -- 3
      refine LinStep.plain rfl ?_
      intro QQ bb T ww hn hJ hd K HK
      obtain ⟨x2, t2, f2⟩ := hJ.dep hd 2 6 (by kernel_rfl) (by kernel_rfl)
      obtain rfl : x2 = .int .i64 a := f2
      have G := hJ.keep
      clear hJ hd hn
      have h0 := HD0.out
      have h1 := HDD.out
      have h2 : IntKind.i64.wrap D = D := IntWalk.i64_in _ (by omega)
      have h3 : wrap64 D = D := by unfold wrap64; omega
      go_simp
      exact HK.out _ _ (Keep.refl _) rfl
    · -- 4
      refine LinStep.plain rfl ?_
      intro QQ bb T ww hn hJ hd K HK
      have s1 := (hJ.oldSlot 1 (by kernel_rfl))
      simp only [List.getElem?_toArray, List.getElem?_cons_zero, List.getElem?_cons_succ] at s1
      have G := hJ.keep
      clear hJ hd hn
      go_simp
      exact HK.out _ _ (Keep.refl _) rfl
    · -- 5
      refine LinStep.plain rfl ?_
      intro QQ bb T ww hn hJ hd K HK
      obtain ⟨x4, t4, f4⟩ := hJ.dep hd 4 8 (by kernel_rfl) (by kernel_rfl)
      obtain rfl : x4 = .pointer (some ⟨A, 1, none⟩) := f4
      have G := hJ.keep
      clear hJ hd hn
      have k0 := G.some q1
      go_simp
      exact HK.out _ _ (Keep.refl _) rfl
    · -- 6
      refine LinStep.plain rfl ?_
      intro QQ bb T ww hn hJ hd K HK
      obtain ⟨x5, t5, f5⟩ := hJ.dep hd 5 9 (by kernel_rfl) (by kernel_rfl)
      obtain rfl : x5 = .int .u16 b := f5
      have G := hJ.keep
      clear hJ hd hn
      have h0 := HB0.out
      have h1 : IntKind.i64.wrap b = b := IntWalk.i64_in _ (by omega)
      go_simp
      exact HK.out _ _ (Keep.refl _) rfl
    · -- 7
      refine LinStep.plain rfl ?_
      intro QQ bb T ww hn hJ hd K HK
      have s1 := (hJ.oldSlot 1 (by kernel_rfl))
      simp only [List.getElem?_toArray, List.getElem?_cons_zero, List.getElem?_cons_succ] at s1
      have G := hJ.keep
      clear hJ hd hn
      go_simp
      exact HK.out _ _ (Keep.refl _) rfl
    · -- 8
      refine LinStep.plain rfl ?_
      intro QQ bb T ww hn hJ hd K HK
      obtain ⟨x7, t7, f7⟩ := hJ.dep hd 7 11 (by kernel_rfl) (by kernel_rfl)
      obtain rfl : x7 = .pointer (some ⟨A, 6, none⟩) := f7
      have G := hJ.keep
      clear hJ hd hn
      have k0 := G.some q6
      go_simp
      exact HK.out _ _ (Keep.refl _) rfl
    · -- 9
      refine LinStep.plain rfl ?_
      intro QQ bb T ww hn hJ hd K HK
      have s1 := (hJ.oldSlot 1 (by kernel_rfl))
      simp only [List.getElem?_toArray, List.getElem?_cons_zero, List.getElem?_cons_succ] at s1
      have G := hJ.keep
      clear hJ hd hn
      go_simp
      exact HK.out _ _ (Keep.refl _) rfl
    · -- 10
      refine LinStep.plain rfl ?_
      intro QQ bb T ww hn hJ hd K HK
      obtain ⟨x9, t9, f9⟩ := hJ.dep hd 9 13 (by kernel_rfl) (by kernel_rfl)
      obtain rfl : x9 = .pointer (some ⟨A, 6, none⟩) := f9
      have G := hJ.keep
      clear hJ hd hn
      have k0 := G.some q6
      go_simp
      exact HK.out _ _ (Keep.refl _) rfl
    · -- 11
      refine LinStep.plain rfl ?_
      intro QQ bb T ww hn hJ hd K HK
      obtain ⟨x10, t10, f10⟩ := hJ.dep hd 10 14 (by kernel_rfl) (by kernel_rfl)
      obtain rfl : x10 = .string x := f10
      have G := hJ.keep
      clear hJ hd hn
      go_simp
      exact HK.out _ _ (Keep.refl _) rfl
    · -- 12
      refine LinStep.plain rfl ?_
      intro QQ bb T ww hn hJ hd K HK
      obtain ⟨x11, t11, f11⟩ := hJ.dep hd 11 15 (by kernel_rfl) (by kernel_rfl)
      obtain rfl : x11 = .int .i64 (x.size : Int) := f11
      have G := hJ.keep
      clear hJ hd hn
      have h1 := HMN.out
      go_simp
      exact HK.out _ _ (Keep.refl _) rfl
    · -- 13
      refine LinStep.plain rfl ?_
      intro QQ bb T ww hn hJ hd K HK
      obtain ⟨x8, t8, f8⟩ := hJ.dep hd 8 12 (by kernel_rfl) (by kernel_rfl)
      obtain rfl : x8 = .string x := f8
      obtain ⟨x12, t12, f12⟩ := hJ.dep hd 12 16 (by kernel_rfl) (by kernel_rfl)
      obtain rfl : x12 = .int .i64 (j : Int) := f12
      have G := hJ.keep
      clear hJ hd hn
      have h1 := HY.out
      have h2 := HJX.out
      go_simp
      exact HK.out _ _ (Keep.refl _) rfl
    · -- 14
      refine LinStep.plain rfl ?_
      intro QQ bb T ww hn hJ hd K HK
      obtain ⟨x3, t3, f3⟩ := hJ.dep hd 3 7 (by kernel_rfl) (by kernel_rfl)
      obtain rfl : x3 = .int .i64 D := f3
      obtain ⟨x6, t6, f6⟩ := hJ.dep hd 6 10 (by kernel_rfl) (by kernel_rfl)
      obtain rfl : x6 = .int .i64 b := f6
      obtain ⟨x13, t13, f13⟩ := hJ.dep hd 13 17 (by kernel_rfl) (by kernel_rfl)
      obtain rfl : x13 = .string y := f13
      have G := hJ.keep
      clear hJ hd hn
      go_simp
      exact HK.out _ _ (Keep.refl _) rfl
    · -- 15
      refine LinStep.plain rfl ?_
      intro QQ bb T ww hn hJ hd K HK
      have G := hJ.keep
      clear hJ hd hn
      go_simp
      exact HK.out _ _ ((Keep.refl _).alloc _) (⟨_, rfl, G.size, heap_alloc_new _ _⟩)
end Go.Proofs.Ytmgnmkdjphnaoaa
