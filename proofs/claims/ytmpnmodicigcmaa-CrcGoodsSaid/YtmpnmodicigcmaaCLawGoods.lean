/- CrcGoods answers true for every input. -/
import Derived.Test.YtmpnmodicigcmaaCSlice
import Derived.Deep.Cut
import Derived.Deep.DeepCutAuto
import Derived.Deep.RegionWith
import Derived.BigRegion
import Derived.Test.YtmpnmodicigcmaaLin
import Derived.IntWalk
namespace Go.Proofs.Ytmpnmodicigcmaa
open Go Go.RowKit

set_option maxRecDepth 100000 in
set_option maxHeartbeats 2000000 in
theorem lawGoods_any (s : ByteArray) (a0 p : Nat) (w : World) (hs : s.size ≤ maxLen) (ha : a0 < 65536) (hp : p < 4294967296) : Calls Try.prog 4 #[.string s, .int .u16 a0, .int .u32 p] w (Res (.bool true) w) := by
  unfold maxLen at hs
  go_enter Try.func4, Try.ntmps4
  go_upto_region 1 with fail
  go_cut [0] (fun a wx => ∃ u : ByteArray, a = .string u ∧ u.size ≤ 100 ∧ Hid (Keep w wx))
  case first =>
    obtain ⟨a2, ha2⟩ : ∃ x, s.extract 0 100 = x := ⟨_, rfl⟩
    have za : a2.size ≤ 100 := by rw [← ha2, ByteArray.size_extract]; omega
    by_cases h : (s.size : Int) ≤ 100
    · go_wp2
      go_meet
      exact ⟨_, rfl, by omega, Lib.hid (Keep.refl _)⟩
    · go_wp2
      go_meet
      exact ⟨_, rfl, za, Lib.hid (Keep.refl _)⟩
  case rest =>
    obtain ⟨u, rfl, hu, HK⟩ := hcut
    clear hs
    have hz : u.size ≤ 100000 := by omega
    obtain ⟨t, ht⟩ : ∃ t, sealG u 0#32 = t := ⟨_, rfl⟩
    obtain ⟨mv, hv⟩ : ∃ mv, sealG u unf = mv := ⟨_, rfl⟩
    have zt : t.size = u.size + 4 := by rw [← ht, sealG_size]
    have zv : mv.size = u.size + 4 := by rw [← hv, sealG_size]
    have HT := Lib.hid ht
    have HV := Lib.hid hv
    clear ht hv
    obtain ⟨n, hn⟩ : ∃ n, u.size + 4 = n := ⟨_, rfl⟩
    rw [hn] at zt zv
    obtain ⟨k, hk⟩ : ∃ k, a0 % (8 * n) = k := ⟨_, rfl⟩
    have hkn : k < 8 * n := by rw [← hk]; exact Nat.mod_lt _ (by omega)
    have hki : (a0 : Int).tmod (8 * (n : Int)) = (k : Int) := by rw [Int.tmod_eq_emod_of_nonneg (by omega), ← hk]; simp
    have hki2 : (a0 : Int) % (8 * (n : Int)) = (k : Int) := by rw [← hk]; simp
    clear hk
    go_upto_region 4 with (first | (go_at_call 17; ((with_reducible refine (refSeal_is u t _ hz HT).mono ?_); rintro e' w1 ⟨rfl, k1⟩)) | (go_at_call 19; ((with_reducible refine (refMark_is u mv _ hz HV).mono ?_); rintro e' w2 ⟨rfl, k2⟩)))
    go_cut [46, 47] (fun a i wx => ∃ f1 f2 p1 p2 : ByteArray, a = .agg #[.string u, .string t, .string mv, .string f1, .string f2, .string p1, .string p2] ∧ i = .int .i64 0 ∧ Hid (f1.size ≤ 1000 ∧ f2.size ≤ 1000 ∧ p1.size ≤ 1000 ∧ p2.size ≤ 1000) ∧ Hid (Keep w wx))
    case first =>
      obtain ⟨q, hq⟩ : ∃ q, k / 8 = q := ⟨_, rfl⟩
      have hqn : q < n := by omega
      have hq1 : (k : Int).tdiv 8 = (q : Int) := by rw [Int.tdiv_eq_ediv_of_nonneg (by omega)]; omega
      have hq2 : (k : Int) / 8 = (q : Int) := by omega
      have hq3 : IntKind.i64.wrap (q : Int) = (q : Int) := IntWalk.i64_in _ (by omega)
      clear hq hki hki2
      obtain ⟨f1, hf1⟩ : ∃ x, flipS t k p = x := ⟨_, rfl⟩
      obtain ⟨f2, hf2⟩ : ∃ x, flipS mv k p = x := ⟨_, rfl⟩
      obtain ⟨p1, hp1⟩ : ∃ x, t.extract 0 q = x := ⟨_, rfl⟩
      obtain ⟨p2, hp2⟩ : ∃ x, mv.extract q n = x := ⟨_, rfl⟩
      have hs1 := slice_to t q (by omega)
      have hs2 := slice_from mv q (by omega)
      rw [hp1] at hs1
      rw [zv, hp2] at hs2
      have HZ : Hid (f1.size ≤ 1000 ∧ f2.size ≤ 1000 ∧ p1.size ≤ 1000 ∧ p2.size ≤ 1000) := Lib.hid (by
        rw [← hf1, ← hf2, ← hp1, ← hp2, flipS_size, flipS_size, ByteArray.size_extract, ByteArray.size_extract]
        omega)
      have HF1 := Lib.hid hf1
      have HF2 := Lib.hid hf2
      have kk : k ≤ 1000000 := by omega
      have tt : t.size ≤ 100000 := by omega
      have vv : mv.size ≤ 100000 := by omega
      have e1 : (k : Int) = (k : Int) := rfl
      have e2 : (p : Int) = (p : Int) := rfl
      have HK2 := Lib.hid ((HK.out.trans k1).trans k2)
      have HQ := Lib.hid (show (k : Int).tdiv 8 = (q : Int) ∧ (k : Int) / 8 = (q : Int) ∧ IntKind.i64.wrap (q : Int) = (q : Int) from ⟨hq1, hq2, hq3⟩)
      have HS1 := Lib.hid hs1
      have HS2 := Lib.hid hs2
      clear hf1 hf2 k1 k2 hp1 hp2 hq1 hq2 hq3 hs1 hs2
      refine region_lin (W0 := w2) (listF [fun v ww => v = .string u, fun v ww => v = .string t, fun v ww => v = .string mv, fun v ww => v = .string t, fun v ww => v = .int .i64 k, fun v ww => v = .int .u32 p, fun v ww => v = .string f1, fun v ww => v = .string mv, fun v ww => v = .int .i64 k, fun v ww => v = .int .u32 p, fun v ww => v = .string f2, fun v ww => v = .string t, fun v ww => v = .int .i64 k, fun v ww => v = .int .i64 q, fun v ww => v = .string p1, fun v ww => v = .string mv, fun v ww => v = .int .i64 k, fun v ww => v = .int .i64 q, fun v ww => v = .string p2, fun v ww => v = .agg #[.string u, .string t, .string mv, .string f1, .string f2, .string p1, .string p2], fun v ww => v = .int .i64 0]) (listF_stable _ ⟨fun _ _ _ _ h => h, fun _ _ _ _ h => h, fun _ _ _ _ h => h, fun _ _ _ _ h => h, fun _ _ _ _ h => h, fun _ _ _ _ h => h, fun _ _ _ _ h => h, fun _ _ _ _ h => h, fun _ _ _ _ h => h, fun _ _ _ _ h => h, fun _ _ _ _ h => h, fun _ _ _ _ h => h, fun _ _ _ _ h => h, fun _ _ _ _ h => h, fun _ _ _ _ h => h, fun _ _ _ _ h => h, fun _ _ _ _ h => h, fun _ _ _ _ h => h, fun _ _ _ _ h => h, fun _ _ _ _ h => h, fun _ _ _ _ h => h, trivial⟩) (by kernel_rfl) (by kernel_rfl) (by kernel_rfl) (by kernel_rfl) (Keep.refl _) ?done4 ?steps4
      case done4 =>
        intro T4 wz4 hJ
        obtain ⟨x0, t0, f0⟩ := hJ.fact 0 27 (by decide) (by kernel_rfl)
        obtain rfl : x0 = .string u := f0
        obtain ⟨x1, t1, f1⟩ := hJ.fact 1 28 (by decide) (by kernel_rfl)
        obtain rfl : x1 = .string t := f1
        obtain ⟨x2, t2, f2⟩ := hJ.fact 2 29 (by decide) (by kernel_rfl)
        obtain rfl : x2 = .string mv := f2
        obtain ⟨x3, t3, f3⟩ := hJ.fact 3 30 (by decide) (by kernel_rfl)
        obtain rfl : x3 = .string t := f3
        obtain ⟨x4, t4, f4⟩ := hJ.fact 4 31 (by decide) (by kernel_rfl)
        obtain rfl : x4 = .int .i64 k := f4
        obtain ⟨x5, t5, f5⟩ := hJ.fact 5 32 (by decide) (by kernel_rfl)
        obtain rfl : x5 = .int .u32 p := f5
        obtain ⟨x6, t6, f6⟩ := hJ.fact 6 33 (by decide) (by kernel_rfl)
        obtain rfl : x6 = .string f1 := f6
        obtain ⟨x7, t7, f7⟩ := hJ.fact 7 34 (by decide) (by kernel_rfl)
        obtain rfl : x7 = .string mv := f7
        obtain ⟨x8, t8, f8⟩ := hJ.fact 8 35 (by decide) (by kernel_rfl)
        obtain rfl : x8 = .int .i64 k := f8
        obtain ⟨x9, t9, f9⟩ := hJ.fact 9 36 (by decide) (by kernel_rfl)
        obtain rfl : x9 = .int .u32 p := f9
        obtain ⟨x10, t10, f10⟩ := hJ.fact 10 37 (by decide) (by kernel_rfl)
        obtain rfl : x10 = .string f2 := f10
        obtain ⟨x11, t11, f11⟩ := hJ.fact 11 38 (by decide) (by kernel_rfl)
        obtain rfl : x11 = .string t := f11
        obtain ⟨x12, t12, f12⟩ := hJ.fact 12 39 (by decide) (by kernel_rfl)
        obtain rfl : x12 = .int .i64 k := f12
        obtain ⟨x13, t13, f13⟩ := hJ.fact 13 40 (by decide) (by kernel_rfl)
        obtain rfl : x13 = .int .i64 q := f13
        obtain ⟨x14, t14, f14⟩ := hJ.fact 14 41 (by decide) (by kernel_rfl)
        obtain rfl : x14 = .string p1 := f14
        obtain ⟨x15, t15, f15⟩ := hJ.fact 15 42 (by decide) (by kernel_rfl)
        obtain rfl : x15 = .string mv := f15
        obtain ⟨x16, t16, f16⟩ := hJ.fact 16 43 (by decide) (by kernel_rfl)
        obtain rfl : x16 = .int .i64 k := f16
        obtain ⟨x17, t17, f17⟩ := hJ.fact 17 44 (by decide) (by kernel_rfl)
        obtain rfl : x17 = .int .i64 q := f17
        obtain ⟨x18, t18, f18⟩ := hJ.fact 18 45 (by decide) (by kernel_rfl)
        obtain rfl : x18 = .string p2 := f18
        obtain ⟨x19, t19, f19⟩ := hJ.fact 19 46 (by decide) (by kernel_rfl)
        obtain rfl : x19 = .agg #[.string u, .string t, .string mv, .string f1, .string f2, .string p1, .string p2] := f19
        obtain ⟨x20, t20, f20⟩ := hJ.fact 20 47 (by decide) (by kernel_rfl)
        obtain rfl : x20 = .int .i64 0 := f20
        have hfr := hJ.frame [(27, .string u), (28, .string t), (29, .string mv), (30, .string t), (31, .int .i64 k), (32, .int .u32 p), (33, .string f1), (34, .string mv), (35, .int .i64 k), (36, .int .u32 p), (37, .string f2), (38, .string t), (39, .int .i64 k), (40, .int .i64 q), (41, .string p1), (42, .string mv), (43, .int .i64 k), (44, .int .i64 q), (45, .string p2), (46, .agg #[.string u, .string t, .string mv, .string f1, .string f2, .string p1, .string p2]), (47, .int .i64 0)] (by simp [t0, t1, t2, t3, t4, t5, t6, t7, t8, t9, t10, t11, t12, t13, t14, t15, t16, t17, t18, t19, t20]) (by kernel_rfl)
        have G := hJ.keep
        clear hJ t0 t1 t2 t3 t4 t5 t6 t7 t8 t9 t10 t11 t12 t13 t14 t15 t16 t17 t18 t19 t20
        rw [hfr]
        clear hfr T4
        simp only [List.foldl_cons, List.foldl_nil, List.setIfInBounds_toArray, List.set_cons_zero, List.set_cons_succ]
        go_wp2
        go_meet
        exact ⟨f1, f2, p1, p2, rfl, rfl, HZ, Lib.hid (HK2.out.trans G)⟩
      case steps4 =>
        refine LinSteps.cons (k := 0) ?_ (LinSteps.cons (k := 1) ?_ (LinSteps.cons (k := 2) ?_ (LinSteps.cons (k := 3) ?_ (LinSteps.cons (k := 4) ?_ (LinSteps.cons (k := 5) ?_ (LinSteps.cons (k := 6) ?_ (LinSteps.cons (k := 7) ?_ (LinSteps.cons (k := 8) ?_ (LinSteps.cons (k := 9) ?_ (LinSteps.cons (k := 10) ?_ (LinSteps.cons (k := 11) ?_ (LinSteps.cons (k := 12) ?_ (LinSteps.cons (k := 13) ?_ (LinSteps.cons (k := 14) ?_ (LinSteps.cons (k := 15) ?_ (LinSteps.cons (k := 16) ?_ (LinSteps.cons (k := 17) ?_ (LinSteps.cons (k := 18) ?_ (LinSteps.cons (k := 19) ?_ (LinSteps.cons (k := 20) ?_ (LinSteps.nil)))))))))))))))))))))
        · -- 0
          refine LinStep.plain rfl ?_
          intro QQ bb T ww hn hJ hd K HK
          have s0 := (hJ.oldSlot 0 (by kernel_rfl))
          simp only [List.getElem?_toArray, List.getElem?_cons_zero] at s0
          have G := hJ.keep
          clear hJ hd hn
          go_simp
          exact HK.out _ _ (Keep.refl _) rfl
        · -- 1
          refine LinStep.plain rfl ?_
          intro QQ bb T ww hn hJ hd K HK
          have s7 := (hJ.oldSlot 7 (by kernel_rfl))
          simp only [List.getElem?_toArray, List.getElem?_cons_zero, List.getElem?_cons_succ] at s7
          have G := hJ.keep
          clear hJ hd hn
          go_simp
          exact HK.out _ _ (Keep.refl _) rfl
        · -- 2
          refine LinStep.plain rfl ?_
          intro QQ bb T ww hn hJ hd K HK
          have s8 := (hJ.oldSlot 8 (by kernel_rfl))
          simp only [List.getElem?_toArray, List.getElem?_cons_zero, List.getElem?_cons_succ] at s8
          have G := hJ.keep
          clear hJ hd hn
          go_simp
          exact HK.out _ _ (Keep.refl _) rfl
        · -- 3
          refine LinStep.plain rfl ?_
          intro QQ bb T ww hn hJ hd K HK
          have s7 := (hJ.oldSlot 7 (by kernel_rfl))
          simp only [List.getElem?_toArray, List.getElem?_cons_zero, List.getElem?_cons_succ] at s7
          have G := hJ.keep
          clear hJ hd hn
          go_simp
          exact HK.out _ _ (Keep.refl _) rfl
        · -- 4
          refine LinStep.plain rfl ?_
          intro QQ bb T ww hn hJ hd K HK
          have s9 := (hJ.oldSlot 9 (by kernel_rfl))
          simp only [List.getElem?_toArray, List.getElem?_cons_zero, List.getElem?_cons_succ] at s9
          have G := hJ.keep
          clear hJ hd hn
          go_simp
          exact HK.out _ _ (Keep.refl _) rfl
        · -- 5
          refine LinStep.plain rfl ?_
          intro QQ bb T ww hn hJ hd K HK
          have s2 := (hJ.oldSlot 2 (by kernel_rfl))
          simp only [List.getElem?_toArray, List.getElem?_cons_zero, List.getElem?_cons_succ] at s2
          have G := hJ.keep
          clear hJ hd hn
          go_simp
          exact HK.out _ _ (Keep.refl _) rfl
        · -- 6
          refine LinStep.plain rfl ?_
          intro QQ bb T ww hn hJ hd K HK
          obtain ⟨x3, t3, f3⟩ := hJ.dep hd 3 30 (by kernel_rfl) (by kernel_rfl)
          obtain rfl : x3 = .string t := f3
          obtain ⟨x4, t4, f4⟩ := hJ.dep hd 4 31 (by kernel_rfl) (by kernel_rfl)
          obtain rfl : x4 = .int .i64 k := f4
          obtain ⟨x5, t5, f5⟩ := hJ.dep hd 5 32 (by kernel_rfl) (by kernel_rfl)
          obtain rfl : x5 = .int .u32 p := f5
          have G := hJ.keep
          clear hJ hd hn
          go_wp2_with (go_at_call 21; ((with_reducible refine (flip_is t f1 _ _ k p _ tt rfl kk rfl hp HF1).mono ?_); rintro e' w1 ⟨rfl, hk⟩))
          exact HK.out _ _ hk rfl
        · -- 7
          refine LinStep.plain rfl ?_
          intro QQ bb T ww hn hJ hd K HK
          have s8 := (hJ.oldSlot 8 (by kernel_rfl))
          simp only [List.getElem?_toArray, List.getElem?_cons_zero, List.getElem?_cons_succ] at s8
          have G := hJ.keep
          clear hJ hd hn
          go_simp
          exact HK.out _ _ (Keep.refl _) rfl
        · -- 8
          refine LinStep.plain rfl ?_
          intro QQ bb T ww hn hJ hd K HK
          have s9 := (hJ.oldSlot 9 (by kernel_rfl))
          simp only [List.getElem?_toArray, List.getElem?_cons_zero, List.getElem?_cons_succ] at s9
          have G := hJ.keep
          clear hJ hd hn
          go_simp
          exact HK.out _ _ (Keep.refl _) rfl
        · -- 9
          refine LinStep.plain rfl ?_
          intro QQ bb T ww hn hJ hd K HK
          have s2 := (hJ.oldSlot 2 (by kernel_rfl))
          simp only [List.getElem?_toArray, List.getElem?_cons_zero, List.getElem?_cons_succ] at s2
          have G := hJ.keep
          clear hJ hd hn
          go_simp
          exact HK.out _ _ (Keep.refl _) rfl
        · -- 10
          refine LinStep.plain rfl ?_
          intro QQ bb T ww hn hJ hd K HK
          obtain ⟨x7, t7, f7⟩ := hJ.dep hd 7 34 (by kernel_rfl) (by kernel_rfl)
          obtain rfl : x7 = .string mv := f7
          obtain ⟨x8, t8, f8⟩ := hJ.dep hd 8 35 (by kernel_rfl) (by kernel_rfl)
          obtain rfl : x8 = .int .i64 k := f8
          obtain ⟨x9, t9, f9⟩ := hJ.dep hd 9 36 (by kernel_rfl) (by kernel_rfl)
          obtain rfl : x9 = .int .u32 p := f9
          have G := hJ.keep
          clear hJ hd hn
          go_wp2_with (go_at_call 21; ((with_reducible refine (flip_is mv f2 _ _ k p _ vv rfl kk rfl hp HF2).mono ?_); rintro e' w1 ⟨rfl, hk⟩))
          exact HK.out _ _ hk rfl
        · -- 11
          refine LinStep.plain rfl ?_
          intro QQ bb T ww hn hJ hd K HK
          have s7 := (hJ.oldSlot 7 (by kernel_rfl))
          simp only [List.getElem?_toArray, List.getElem?_cons_zero, List.getElem?_cons_succ] at s7
          have G := hJ.keep
          clear hJ hd hn
          go_simp
          exact HK.out _ _ (Keep.refl _) rfl
        · -- 12
          refine LinStep.plain rfl ?_
          intro QQ bb T ww hn hJ hd K HK
          have s9 := (hJ.oldSlot 9 (by kernel_rfl))
          simp only [List.getElem?_toArray, List.getElem?_cons_zero, List.getElem?_cons_succ] at s9
          have G := hJ.keep
          clear hJ hd hn
          go_simp
          exact HK.out _ _ (Keep.refl _) rfl
        · -- 13
          refine LinStep.plain rfl ?_
          intro QQ bb T ww hn hJ hd K HK
          obtain ⟨x12, t12, f12⟩ := hJ.dep hd 12 39 (by kernel_rfl) (by kernel_rfl)
          obtain rfl : x12 = .int .i64 k := f12
          have G := hJ.keep
          clear hJ hd hn
          have hq1 := HQ.out.1
          have hq2 := HQ.out.2.1
          have hq3 := HQ.out.2.2
          go_simp
          exact HK.out _ _ (Keep.refl _) rfl
        · -- 14
          refine LinStep.plain rfl ?_
          intro QQ bb T ww hn hJ hd K HK
          obtain ⟨x11, t11, f11⟩ := hJ.dep hd 11 38 (by kernel_rfl) (by kernel_rfl)
          obtain rfl : x11 = .string t := f11
          obtain ⟨x13, t13, f13⟩ := hJ.dep hd 13 40 (by kernel_rfl) (by kernel_rfl)
          obtain rfl : x13 = .int .i64 q := f13
          have G := hJ.keep
          clear hJ hd hn
          have hs1 := HS1.out
          go_simp
          exact HK.out _ _ (Keep.refl _) rfl
        · -- 15
          refine LinStep.plain rfl ?_
          intro QQ bb T ww hn hJ hd K HK
          have s8 := (hJ.oldSlot 8 (by kernel_rfl))
          simp only [List.getElem?_toArray, List.getElem?_cons_zero, List.getElem?_cons_succ] at s8
          have G := hJ.keep
          clear hJ hd hn
          go_simp
          exact HK.out _ _ (Keep.refl _) rfl
        · -- 16
          refine LinStep.plain rfl ?_
          intro QQ bb T ww hn hJ hd K HK
          have s9 := (hJ.oldSlot 9 (by kernel_rfl))
          simp only [List.getElem?_toArray, List.getElem?_cons_zero, List.getElem?_cons_succ] at s9
          have G := hJ.keep
          clear hJ hd hn
          go_simp
          exact HK.out _ _ (Keep.refl _) rfl
        · -- 17
          refine LinStep.plain rfl ?_
          intro QQ bb T ww hn hJ hd K HK
          obtain ⟨x16, t16, f16⟩ := hJ.dep hd 16 43 (by kernel_rfl) (by kernel_rfl)
          obtain rfl : x16 = .int .i64 k := f16
          have G := hJ.keep
          clear hJ hd hn
          have hq1 := HQ.out.1
          have hq2 := HQ.out.2.1
          have hq3 := HQ.out.2.2
          go_simp
          exact HK.out _ _ (Keep.refl _) rfl
        · -- 18
          refine LinStep.plain rfl ?_
          intro QQ bb T ww hn hJ hd K HK
          obtain ⟨x15, t15, f15⟩ := hJ.dep hd 15 42 (by kernel_rfl) (by kernel_rfl)
          obtain rfl : x15 = .string mv := f15
          obtain ⟨x17, t17, f17⟩ := hJ.dep hd 17 44 (by kernel_rfl) (by kernel_rfl)
          obtain rfl : x17 = .int .i64 q := f17
          have G := hJ.keep
          clear hJ hd hn
          have hs2 := HS2.out
          go_simp
          exact HK.out _ _ (Keep.refl _) rfl
        · -- 19
          refine LinStep.plain rfl ?_
          intro QQ bb T ww hn hJ hd K HK
          obtain ⟨x0, t0, f0⟩ := hJ.dep hd 0 27 (by kernel_rfl) (by kernel_rfl)
          obtain rfl : x0 = .string u := f0
          obtain ⟨x1, t1, f1⟩ := hJ.dep hd 1 28 (by kernel_rfl) (by kernel_rfl)
          obtain rfl : x1 = .string t := f1
          obtain ⟨x2, t2, f2⟩ := hJ.dep hd 2 29 (by kernel_rfl) (by kernel_rfl)
          obtain rfl : x2 = .string mv := f2
          obtain ⟨x6, t6, f6⟩ := hJ.dep hd 6 33 (by kernel_rfl) (by kernel_rfl)
          obtain rfl : x6 = .string f1 := f6
          obtain ⟨x10, t10, f10⟩ := hJ.dep hd 10 37 (by kernel_rfl) (by kernel_rfl)
          obtain rfl : x10 = .string f2 := f10
          obtain ⟨x14, t14, f14⟩ := hJ.dep hd 14 41 (by kernel_rfl) (by kernel_rfl)
          obtain rfl : x14 = .string p1 := f14
          obtain ⟨x18, t18, f18⟩ := hJ.dep hd 18 45 (by kernel_rfl) (by kernel_rfl)
          obtain rfl : x18 = .string p2 := f18
          have G := hJ.keep
          clear hJ hd hn
          go_simp
          exact HK.out _ _ (Keep.refl _) rfl
        · -- 20
          refine LinStep.plain rfl ?_
          intro QQ bb T ww hn hJ hd K HK
          have G := hJ.keep
          clear hJ hd hn
          go_simp
          exact HK.out _ _ (Keep.refl _) rfl
    case rest =>
      obtain ⟨f1, f2, p1, p2, rfl, rfl, HZ, HK⟩ := hcut
      have zz := HZ.out
      have ht3 : t.size ≤ 1000 := by omega
      have hm3 : mv.size ≤ 1000 := by omega
      have hu3 : u.size ≤ 1000 := by omega
      have HX : Hid (∀ j : Nat, j < 7 → ∃ x : ByteArray, x.size ≤ 100000 ∧ ∀ wy : World, (Instr.index 31 (.agg #[.string u, .string t, .string mv, .string f1, .string f2, .string p1, .string p2]) (.int .i64 j)).run Try.prog wy = .ok (.string x) wy) := Lib.hid (by
        intro j hj
        have : j = 0 ∨ j = 1 ∨ j = 2 ∨ j = 3 ∨ j = 4 ∨ j = 5 ∨ j = 6 := by omega
        rcases this with rfl | rfl | rfl | rfl | rfl | rfl | rfl
        · exact ⟨u, by omega, fun wy => by kernel_rfl⟩
        · exact ⟨t, by omega, fun wy => by kernel_rfl⟩
        · exact ⟨mv, by omega, fun wy => by kernel_rfl⟩
        · exact ⟨f1, by omega, fun wy => by kernel_rfl⟩
        · exact ⟨f2, by omega, fun wy => by kernel_rfl⟩
        · exact ⟨p1, by omega, fun wy => by kernel_rfl⟩
        · exact ⟨p2, by omega, fun wy => by kernel_rfl⟩)
      clear zz HT HV k1 k2 zt zv hkn hki hki2 hn
      go_wp2_with fail
      go_loopw [11, 47] (fun _ i wr => ∃ j : Nat, j ≤ 7 ∧ i = .int .i64 j ∧ Hid (Keep w wr)) (fun _ i _ => 7 - (intOf i).toNat)
      case atStart => exact ⟨0, by omega, rfl, HK⟩
      case round =>
        obtain ⟨j, hj, rfl, HKr⟩ := hrel
        by_cases hlt : j < 7
        · obtain ⟨x, hx, hidx⟩ := HX.out j hlt
          obtain ⟨b1, hb1⟩ : ∃ b, goodS x 0#32 = b := ⟨_, rfl⟩
          obtain ⟨b2, hb2⟩ : ∃ b, goodS x unf = b := ⟨_, rfl⟩
          have HB1 := Lib.hid hb1
          have HB2 := Lib.hid hb2
          clear hb1 hb2
          go_wp2_with (first | (go_at_call 22; ((with_reducible refine (good_is x b1 _ hx HB1).mono ?_); rintro e' w3 ⟨rfl, k3⟩)) | (go_at_call 23; ((with_reducible refine (refGood_is x b1 _ hx HB1).mono ?_); rintro e' w4 ⟨rfl, k4⟩)) | (go_at_call 24; ((with_reducible refine (marked_is x b2 _ hx HB2).mono ?_); rintro e' w5 ⟨rfl, k5⟩)) | (go_at_call 25; ((with_reducible refine (refMarked_is x b2 _ hx HB2).mono ?_); rintro e' w6 ⟨rfl, k6⟩)))
          go_roundw
          case rel => exact ⟨j + 1, by omega, by go_num, Lib.hid ((((HKr.out.trans k3).trans k4).trans k5).trans k6)⟩
          case measure => simp [intOf]; omega
        · obtain rfl : j = 7 := by omega
          go_wp2_with (go_at_call 20; ((with_reducible refine (works_any _).mono ?_); rintro e' w7 ⟨rfl, k7⟩))
          go_ret
          exact ⟨rfl, HKr.out.trans k7⟩
end Go.Proofs.Ytmpnmodicigcmaa
