/- CrcParts answers true for every input. -/
import Derived.Test.YtmpnmodicigcmaaCLawLinear
import Derived.Test.YtmpnmodicigcmaaCLawBursts
namespace Go.Proofs.Ytmpnmodicigcmaa
open Go Go.RowKit

theorem parts_list (s : ByteArray) (k : Nat) : (s.extract 0 k).data.toList ++ (s.extract k s.size).data.toList = s.data.toList := by
  rw [take_list, extract_list]
  have hl : s.data.toList.length = s.size := rfl
  rw [List.take_of_length_le (l := s.data.toList.drop k) (by rw [List.length_drop]; omega), List.take_append_drop]
theorem seal_front (u : ByteArray) (g : BitVec 32) : (sealG u g).extract 0 u.size = u := by
  apply data_ext
  rw [take_list, sealG_list]
  have hl : u.data.toList.length = u.size := rfl
  rw [List.take_append_of_le_length (by omega), List.take_of_length_le (by omega)]
theorem residue_val : cv (stp 32 (ones ^^^ 0#32) ^^^ ones) = 558161692 := by kernel_rfl
theorem residue (u : ByteArray) : cv (extB 0#32 (sealG u 0#32).data.toList) = 558161692 := by
  have h := ((good_iff _ _).1 (seal_good u 0#32)).2
  rw [extB_zero, h]
  exact residue_val
set_option maxRecDepth 100000 in
set_option maxHeartbeats 4000000 in
theorem lawParts_any (s : ByteArray) (a0 : Nat) (w : World) (hs : s.size ≤ maxLen) (ha : a0 < 256) : Calls Try.prog 8 #[.string s, .int .u8 a0] w (Res (.bool true) w) := by
  unfold maxLen at hs
  go_enter Try.func8, Try.ntmps8
  go_upto_region 3 with (go_at_call 20; ((with_reducible refine (works_any _).mono ?_); rintro e' w0 ⟨rfl, k0⟩))
  go_cut [0] (fun a wx => ∃ u : ByteArray, a = .string u ∧ u.size ≤ 200 ∧ Hid (Keep w wx))
  case first =>
    obtain ⟨a2, ha2⟩ : ∃ x, s.extract 0 200 = x := ⟨_, rfl⟩
    have za : a2.size ≤ 200 := by rw [← ha2, ByteArray.size_extract]; omega
    by_cases h : (s.size : Int) ≤ 200
    · go_wp2
      go_meet
      exact ⟨_, rfl, by omega, Lib.hid k0⟩
    · go_wp2
      go_meet
      exact ⟨_, rfl, za, Lib.hid k0⟩
  case rest =>
    obtain ⟨u, rfl, hu, HK⟩ := hcut
    clear hs
    go_upto_region 4 with fail
    go_cut [5] (fun v wx => ∃ k : Nat, v = .int .i64 k ∧ k ≤ u.size ∧ Hid (Keep w wx))
    case first =>
      by_cases h : (a0 : Int) ≤ (u.size : Int)
      · go_wp2
        all_goals go_meet
        all_goals first | exact ⟨a0, rfl, by omega, HK⟩ | exact ⟨u.size, rfl, by omega, HK⟩
      · go_wp2
        all_goals go_meet
        all_goals first | exact ⟨u.size, rfl, by omega, HK⟩ | exact ⟨a0, rfl, by omega, HK⟩
    case rest =>
    obtain ⟨k, rfl, hku, HK⟩ := hcut
    have hz : u.size ≤ 100000 := by omega
    obtain ⟨t, ht⟩ : ∃ t, sealG u 0#32 = t := ⟨_, rfl⟩
    have zt : t.size = u.size + 4 := by rw [← ht, sealG_size]
    have HT := Lib.hid ht
    obtain ⟨tt, htt⟩ : ∃ tt, sealG t 0#32 = tt := ⟨_, rfl⟩
    have HTT := Lib.hid htt
    have ztt : tt.size = t.size + 4 := by rw [← htt, sealG_size]
    have HTZ : Hid (t.size ≤ 100000) := Lib.hid (by omega)
    have HTM : Hid (t.size ≤ maxLen) := Lib.hid (by unfold maxLen; omega)
    have HTTZ : Hid (tt.size ≤ 100000) := Lib.hid (by omega)
    have HGT : Hid (goodS tt 0#32 = true) := Lib.hid (by rw [← htt]; exact seal_good t _)
    have HRT : Hid (cv (extB 0#32 t.data.toList) = 558161692) := Lib.hid (by rw [← ht]; exact residue u)
    obtain ⟨M, hM⟩ : ∃ M : Int, (u.size : Int) = M := ⟨_, rfl⟩
    obtain ⟨M4, hM4⟩ : ∃ M4 : Int, (t.size : Int) = M4 := ⟨_, rfl⟩
    have HW : Hid (IntKind.i64.wrap (M + 4) = M4) := Lib.hid (by rw [IntWalk.i64_in _ (by omega)]; omega)
    have HM := Lib.hid hM
    have HM4 := Lib.hid hM4
    obtain ⟨p, hp⟩ : ∃ p, u.extract 0 k = p := ⟨_, rfl⟩
    obtain ⟨q, hq⟩ : ∃ q, u.extract k u.size = q := ⟨_, rfl⟩
    have HSP : Hid (∀ wy : World, (Instr.slice 9 (.string u) none (some (.int .i64 k)) none).run Try.prog wy = .ok (.string p) wy) := Lib.hid (by rw [← hp]; exact slice_to u k hku)
    have HSQ : Hid (∀ wy : World, (Instr.slice 9 (.string u) (some (.int .i64 k)) none none).run Try.prog wy = .ok (.string q) wy) := Lib.hid (by rw [← hq]; exact slice_from u k hku)
    have HST : Hid (∀ wy : World, (Instr.slice 9 (.string t) none (some (.int .i64 M)) none).run Try.prog wy = .ok (.string u) wy) := Lib.hid (by
      have := slice_to t u.size (by omega)
      rw [hM, ← ht, seal_front, ht] at this
      exact this)
    have HBU : Hid ((u.toList == u.toList) = true) := Lib.hid (by simp)
    obtain ⟨rp, hrp⟩ : ∃ r, cv (extB 0#32 p.data.toList) = r := ⟨_, rfl⟩
    obtain ⟨r, hr⟩ : ∃ r, cv (extB 0#32 u.data.toList) = r := ⟨_, rfl⟩
    have HRP := Lib.hid hrp
    have HR := Lib.hid hr
    have HRPB : Hid (0 ≤ rp ∧ rp < 4294967296) := Lib.hid (by rw [← hrp]; exact cv_bd _)
    have HRB : Hid (0 ≤ r ∧ r < 4294967296) := Lib.hid (by rw [← hr]; exact cv_bd _)
    have HRQ : Hid (cv (extB (bvOf rp) q.data.toList) = r) := Lib.hid (by rw [← hrp, bvOf_cv, ← extB_append, ← hp, ← hq, parts_list, hr])
    have HRE : Hid (cv (extB (bvOf r) (⟨#[]⟩ : ByteArray).data.toList) = r) := Lib.hid (by
      rw [← hr, bvOf_cv]
      exact congrArg cv (extB_nil _))
    have HE : Hid ((⟨#[]⟩ : ByteArray).size ≤ maxLen) := Lib.hid (by decide)
    have HU : Hid (u.size ≤ maxLen) := Lib.hid (by unfold maxLen; omega)
    have HP : Hid (p.size ≤ maxLen) := Lib.hid (by rw [← hp, ByteArray.size_extract]; unfold maxLen; omega)
    have HQ : Hid (q.size ≤ maxLen) := Lib.hid (by rw [← hq, ByteArray.size_extract]; unfold maxLen; omega)
    clear ht zt htt ztt hM hM4 hp hq hrp hr
    go_upto_region 6 with (go_at_call 16; ((with_reducible refine (seal_is u t _ hz HT).mono ?_); rintro e' w5 ⟨rfl, k5⟩))
    have HK5 := Lib.hid (HK.out.trans k5)
    clear k5
    refine region_lin (W0 := w5) (listF ((fun (v : Value) (ww : World) => v = .string u) :: (fun (v : Value) (ww : World) => v = .int .i64 k) :: (fun (v : Value) (ww : World) => v = .string p) :: (fun (v : Value) (ww : World) => v = .int .u32 rp) :: (fun (v : Value) (ww : World) => v = .string u) :: (fun (v : Value) (ww : World) => v = .int .i64 k) :: (fun (v : Value) (ww : World) => v = .string q) :: (fun (v : Value) (ww : World) => v = .int .u32 r) :: (fun (v : Value) (ww : World) => v = .string u) :: (fun (v : Value) (ww : World) => v = .int .u32 r) :: (fun (v : Value) (ww : World) => v = .bool true) :: (fun (v : Value) (ww : World) => v = .bool true) :: (fun (v : Value) (ww : World) => v = .string u) :: (fun (v : Value) (ww : World) => v = .int .u32 r) :: (fun (v : Value) (ww : World) => v = .int .u32 r) :: (fun (v : Value) (ww : World) => v = .string u) :: (fun (v : Value) (ww : World) => v = .int .u32 r) :: (fun (v : Value) (ww : World) => v = .bool true) :: (fun (v : Value) (ww : World) => v = .bool true) :: (fun (v : Value) (ww : World) => v = .bool true) :: (fun (v : Value) (ww : World) => v = .string t) :: (fun (v : Value) (ww : World) => v = .int .i64 M4) :: (fun (v : Value) (ww : World) => v = .string u) :: (fun (v : Value) (ww : World) => v = .int .i64 M) :: (fun (v : Value) (ww : World) => v = .int .i64 M4) :: (fun (v : Value) (ww : World) => v = .bool true) :: (fun (v : Value) (ww : World) => v = .bool true) :: (fun (v : Value) (ww : World) => v = .bool true) :: (fun (v : Value) (ww : World) => v = .string t) :: (fun (v : Value) (ww : World) => v = .string u) :: (fun (v : Value) (ww : World) => v = .int .i64 M) :: (fun (v : Value) (ww : World) => v = .string u) :: (fun (v : Value) (ww : World) => v = .string u) :: (fun (v : Value) (ww : World) => v = .bool true) :: (fun (v : Value) (ww : World) => v = .bool true) :: (fun (v : Value) (ww : World) => v = .bool true) :: (fun (v : Value) (ww : World) => v = .string t) :: (fun (v : Value) (ww : World) => v = .string tt) :: (fun (v : Value) (ww : World) => v = .bool true) :: (fun (v : Value) (ww : World) => v = .bool true) :: (fun (v : Value) (ww : World) => v = .bool true) :: (fun (v : Value) (ww : World) => v = .string t) :: (fun (v : Value) (ww : World) => v = .int .u32 558161692) :: (fun (v : Value) (ww : World) => v = .bool true) :: (fun (v : Value) (ww : World) => v = .bool true) :: (fun (v : Value) (ww : World) => v = .bool true) :: [])) (listF_stable _ ⟨fun _ _ _ _ h => h, fun _ _ _ _ h => h, fun _ _ _ _ h => h, fun _ _ _ _ h => h, fun _ _ _ _ h => h, fun _ _ _ _ h => h, fun _ _ _ _ h => h, fun _ _ _ _ h => h, fun _ _ _ _ h => h, fun _ _ _ _ h => h, fun _ _ _ _ h => h, fun _ _ _ _ h => h, fun _ _ _ _ h => h, fun _ _ _ _ h => h, fun _ _ _ _ h => h, fun _ _ _ _ h => h, fun _ _ _ _ h => h, fun _ _ _ _ h => h, fun _ _ _ _ h => h, fun _ _ _ _ h => h, fun _ _ _ _ h => h, fun _ _ _ _ h => h, fun _ _ _ _ h => h, fun _ _ _ _ h => h, fun _ _ _ _ h => h, fun _ _ _ _ h => h, fun _ _ _ _ h => h, fun _ _ _ _ h => h, fun _ _ _ _ h => h, fun _ _ _ _ h => h, fun _ _ _ _ h => h, fun _ _ _ _ h => h, fun _ _ _ _ h => h, fun _ _ _ _ h => h, fun _ _ _ _ h => h, fun _ _ _ _ h => h, fun _ _ _ _ h => h, fun _ _ _ _ h => h, fun _ _ _ _ h => h, fun _ _ _ _ h => h, fun _ _ _ _ h => h, fun _ _ _ _ h => h, fun _ _ _ _ h => h, fun _ _ _ _ h => h, fun _ _ _ _ h => h, fun _ _ _ _ h => h, trivial⟩) (by kernel_rfl) (by kernel_rfl) (by kernel_rfl) (by kernel_rfl) (Keep.refl _) ?done6 ?steps6
    case done6 =>
      intro T6 wz6 hJ
      obtain ⟨x0, t0, f0⟩ := hJ.fact 0 21 (by decide) (by kernel_rfl)
      obtain rfl : x0 = .string u := f0
      obtain ⟨x1, t1, f1⟩ := hJ.fact 1 22 (by decide) (by kernel_rfl)
      obtain rfl : x1 = .int .i64 k := f1
      obtain ⟨x2, t2, f2⟩ := hJ.fact 2 23 (by decide) (by kernel_rfl)
      obtain rfl : x2 = .string p := f2
      obtain ⟨x3, t3, f3⟩ := hJ.fact 3 24 (by decide) (by kernel_rfl)
      obtain rfl : x3 = .int .u32 rp := f3
      obtain ⟨x4, t4, f4⟩ := hJ.fact 4 25 (by decide) (by kernel_rfl)
      obtain rfl : x4 = .string u := f4
      obtain ⟨x5, t5, f5⟩ := hJ.fact 5 26 (by decide) (by kernel_rfl)
      obtain rfl : x5 = .int .i64 k := f5
      obtain ⟨x6, t6, f6⟩ := hJ.fact 6 27 (by decide) (by kernel_rfl)
      obtain rfl : x6 = .string q := f6
      obtain ⟨x7, t7, f7⟩ := hJ.fact 7 28 (by decide) (by kernel_rfl)
      obtain rfl : x7 = .int .u32 r := f7
      obtain ⟨x8, t8, f8⟩ := hJ.fact 8 29 (by decide) (by kernel_rfl)
      obtain rfl : x8 = .string u := f8
      obtain ⟨x9, t9, f9⟩ := hJ.fact 9 30 (by decide) (by kernel_rfl)
      obtain rfl : x9 = .int .u32 r := f9
      obtain ⟨x10, t10, f10⟩ := hJ.fact 10 31 (by decide) (by kernel_rfl)
      obtain rfl : x10 = .bool true := f10
      obtain ⟨x11, t11, f11⟩ := hJ.fact 11 32 (by decide) (by kernel_rfl)
      obtain rfl : x11 = .bool true := f11
      obtain ⟨x12, t12, f12⟩ := hJ.fact 12 33 (by decide) (by kernel_rfl)
      obtain rfl : x12 = .string u := f12
      obtain ⟨x13, t13, f13⟩ := hJ.fact 13 34 (by decide) (by kernel_rfl)
      obtain rfl : x13 = .int .u32 r := f13
      obtain ⟨x14, t14, f14⟩ := hJ.fact 14 35 (by decide) (by kernel_rfl)
      obtain rfl : x14 = .int .u32 r := f14
      obtain ⟨x15, t15, f15⟩ := hJ.fact 15 36 (by decide) (by kernel_rfl)
      obtain rfl : x15 = .string u := f15
      obtain ⟨x16, t16, f16⟩ := hJ.fact 16 37 (by decide) (by kernel_rfl)
      obtain rfl : x16 = .int .u32 r := f16
      obtain ⟨x17, t17, f17⟩ := hJ.fact 17 38 (by decide) (by kernel_rfl)
      obtain rfl : x17 = .bool true := f17
      obtain ⟨x18, t18, f18⟩ := hJ.fact 18 39 (by decide) (by kernel_rfl)
      obtain rfl : x18 = .bool true := f18
      obtain ⟨x19, t19, f19⟩ := hJ.fact 19 40 (by decide) (by kernel_rfl)
      obtain rfl : x19 = .bool true := f19
      obtain ⟨x20, t20, f20⟩ := hJ.fact 20 41 (by decide) (by kernel_rfl)
      obtain rfl : x20 = .string t := f20
      obtain ⟨x21, t21, f21⟩ := hJ.fact 21 42 (by decide) (by kernel_rfl)
      obtain rfl : x21 = .int .i64 M4 := f21
      obtain ⟨x22, t22, f22⟩ := hJ.fact 22 43 (by decide) (by kernel_rfl)
      obtain rfl : x22 = .string u := f22
      obtain ⟨x23, t23, f23⟩ := hJ.fact 23 44 (by decide) (by kernel_rfl)
      obtain rfl : x23 = .int .i64 M := f23
      obtain ⟨x24, t24, f24⟩ := hJ.fact 24 45 (by decide) (by kernel_rfl)
      obtain rfl : x24 = .int .i64 M4 := f24
      obtain ⟨x25, t25, f25⟩ := hJ.fact 25 46 (by decide) (by kernel_rfl)
      obtain rfl : x25 = .bool true := f25
      obtain ⟨x26, t26, f26⟩ := hJ.fact 26 47 (by decide) (by kernel_rfl)
      obtain rfl : x26 = .bool true := f26
      obtain ⟨x27, t27, f27⟩ := hJ.fact 27 48 (by decide) (by kernel_rfl)
      obtain rfl : x27 = .bool true := f27
      obtain ⟨x28, t28, f28⟩ := hJ.fact 28 49 (by decide) (by kernel_rfl)
      obtain rfl : x28 = .string t := f28
      obtain ⟨x29, t29, f29⟩ := hJ.fact 29 50 (by decide) (by kernel_rfl)
      obtain rfl : x29 = .string u := f29
      obtain ⟨x30, t30, f30⟩ := hJ.fact 30 51 (by decide) (by kernel_rfl)
      obtain rfl : x30 = .int .i64 M := f30
      obtain ⟨x31, t31, f31⟩ := hJ.fact 31 52 (by decide) (by kernel_rfl)
      obtain rfl : x31 = .string u := f31
      obtain ⟨x32, t32, f32⟩ := hJ.fact 32 53 (by decide) (by kernel_rfl)
      obtain rfl : x32 = .string u := f32
      obtain ⟨x33, t33, f33⟩ := hJ.fact 33 54 (by decide) (by kernel_rfl)
      obtain rfl : x33 = .bool true := f33
      obtain ⟨x34, t34, f34⟩ := hJ.fact 34 55 (by decide) (by kernel_rfl)
      obtain rfl : x34 = .bool true := f34
      obtain ⟨x35, t35, f35⟩ := hJ.fact 35 56 (by decide) (by kernel_rfl)
      obtain rfl : x35 = .bool true := f35
      obtain ⟨x36, t36, f36⟩ := hJ.fact 36 57 (by decide) (by kernel_rfl)
      obtain rfl : x36 = .string t := f36
      obtain ⟨x37, t37, f37⟩ := hJ.fact 37 58 (by decide) (by kernel_rfl)
      obtain rfl : x37 = .string tt := f37
      obtain ⟨x38, t38, f38⟩ := hJ.fact 38 59 (by decide) (by kernel_rfl)
      obtain rfl : x38 = .bool true := f38
      obtain ⟨x39, t39, f39⟩ := hJ.fact 39 60 (by decide) (by kernel_rfl)
      obtain rfl : x39 = .bool true := f39
      obtain ⟨x40, t40, f40⟩ := hJ.fact 40 61 (by decide) (by kernel_rfl)
      obtain rfl : x40 = .bool true := f40
      obtain ⟨x41, t41, f41⟩ := hJ.fact 41 62 (by decide) (by kernel_rfl)
      obtain rfl : x41 = .string t := f41
      obtain ⟨x42, t42, f42⟩ := hJ.fact 42 63 (by decide) (by kernel_rfl)
      obtain rfl : x42 = .int .u32 558161692 := f42
      obtain ⟨x43, t43, f43⟩ := hJ.fact 43 64 (by decide) (by kernel_rfl)
      obtain rfl : x43 = .bool true := f43
      obtain ⟨x44, t44, f44⟩ := hJ.fact 44 65 (by decide) (by kernel_rfl)
      obtain rfl : x44 = .bool true := f44
      obtain ⟨x45, t45, f45⟩ := hJ.fact 45 4 (by decide) (by kernel_rfl)
      obtain rfl : x45 = .bool true := f45
      have hfr := hJ.frame ((21, .string u) :: (22, .int .i64 k) :: (23, .string p) :: (24, .int .u32 rp) :: (25, .string u) :: (26, .int .i64 k) :: (27, .string q) :: (28, .int .u32 r) :: (29, .string u) :: (30, .int .u32 r) :: (31, .bool true) :: (32, .bool true) :: (33, .string u) :: (34, .int .u32 r) :: (35, .int .u32 r) :: (36, .string u) :: (37, .int .u32 r) :: (38, .bool true) :: (39, .bool true) :: (40, .bool true) :: (41, .string t) :: (42, .int .i64 M4) :: (43, .string u) :: (44, .int .i64 M) :: (45, .int .i64 M4) :: (46, .bool true) :: (47, .bool true) :: (48, .bool true) :: (49, .string t) :: (50, .string u) :: (51, .int .i64 M) :: (52, .string u) :: (53, .string u) :: (54, .bool true) :: (55, .bool true) :: (56, .bool true) :: (57, .string t) :: (58, .string tt) :: (59, .bool true) :: (60, .bool true) :: (61, .bool true) :: (62, .string t) :: (63, .int .u32 558161692) :: (64, .bool true) :: (65, .bool true) :: (4, .bool true) :: []) (by simp [t0, t1, t2, t3, t4, t5, t6, t7, t8, t9, t10, t11, t12, t13, t14, t15, t16, t17, t18, t19, t20, t21, t22, t23, t24, t25, t26, t27, t28, t29, t30, t31, t32, t33, t34, t35, t36, t37, t38, t39, t40, t41, t42, t43, t44, t45]) (by kernel_rfl)
      have G := hJ.keep
      clear hJ t0 t1 t2 t3 t4 t5 t6 t7 t8 t9 t10 t11 t12 t13 t14 t15 t16 t17 t18 t19 t20 t21 t22 t23 t24 t25 t26 t27 t28 t29 t30 t31 t32 t33 t34 t35 t36 t37 t38 t39 t40 t41 t42 t43 t44 t45
      rw [hfr]
      clear hfr T6
      simp only [List.foldl_cons, List.foldl_nil, List.setIfInBounds_toArray, List.set_cons_zero, List.set_cons_succ]
      go_wp2
      go_ret
      exact ⟨rfl, HK5.out.trans G⟩
    case steps6 =>
      refine LinSteps.cons (k := 0) ?_ (LinSteps.cons (k := 1) ?_ (LinSteps.cons (k := 2) ?_ (LinSteps.cons (k := 3) ?_ (LinSteps.cons (k := 4) ?_ (LinSteps.cons (k := 5) ?_ (LinSteps.cons (k := 6) ?_ (LinSteps.cons (k := 7) ?_ (LinSteps.cons (k := 8) ?_ (LinSteps.cons (k := 9) ?_ (LinSteps.cons (k := 10) ?_ (LinSteps.cons (k := 11) ?_ (LinSteps.cons (k := 12) ?_ (LinSteps.cons (k := 13) ?_ (LinSteps.cons (k := 14) ?_ (LinSteps.cons (k := 15) ?_ (LinSteps.cons (k := 16) ?_ (LinSteps.cons (k := 17) ?_ (LinSteps.cons (k := 18) ?_ (LinSteps.cons (k := 19) ?_ (LinSteps.cons (k := 20) ?_ (LinSteps.cons (k := 21) ?_ (LinSteps.cons (k := 22) ?_ (LinSteps.cons (k := 23) ?_ (LinSteps.cons (k := 24) ?_ (LinSteps.cons (k := 25) ?_ (LinSteps.cons (k := 26) ?_ (LinSteps.cons (k := 27) ?_ (LinSteps.cons (k := 28) ?_ (LinSteps.cons (k := 29) ?_ (LinSteps.cons (k := 30) ?_ (LinSteps.cons (k := 31) ?_ (LinSteps.cons (k := 32) ?_ (LinSteps.cons (k := 33) ?_ (LinSteps.cons (k := 34) ?_ (LinSteps.cons (k := 35) ?_ (LinSteps.cons (k := 36) ?_ (LinSteps.cons (k := 37) ?_ (LinSteps.cons (k := 38) ?_ (LinSteps.cons (k := 39) ?_ (LinSteps.cons (k := 40) ?_ (LinSteps.cons (k := 41) ?_ (LinSteps.cons (k := 42) ?_ (LinSteps.cons (k := 43) ?_ (LinSteps.cons (k := 44) ?_ (LinSteps.cons (k := 45) ?_ (LinSteps.nil))))))))))))))))))))))))))))))))))))))))))))))
      · -- 0
        refine LinStep.plain rfl ?_
        intro QQ bb T ww hn hJ hd K HK
        have s0 := (hJ.oldSlot 0 (by kernel_rfl))
        simp only [List.getElem?_toArray, List.getElem?_cons_zero] at s0
        have G := hJ.keep
        clear hJ hd hn
        go_simp
        exact HK.out _ _ (Keep.refl _) rfl
      · -- 1
        refine LinStep.plain rfl ?_
        intro QQ bb T ww hn hJ hd K HK
        have s5 := (hJ.oldSlot 5 (by kernel_rfl))
        simp only [List.getElem?_toArray, List.getElem?_cons_zero, List.getElem?_cons_succ] at s5
        have G := hJ.keep
        clear hJ hd hn
        go_simp
        exact HK.out _ _ (Keep.refl _) rfl
      · -- 2
        refine LinStep.plain rfl ?_
        intro QQ bb T ww hn hJ hd K HK
        obtain ⟨x0, t0, f0⟩ := hJ.dep hd 0 21 (by kernel_rfl) (by kernel_rfl)
        obtain rfl : x0 = .string u := f0
        obtain ⟨x1, t1, f1⟩ := hJ.dep hd 1 22 (by kernel_rfl) (by kernel_rfl)
        obtain rfl : x1 = .int .i64 k := f1
        have G := hJ.keep
        clear hJ hd hn
        have hs := HSP.out
        go_simp
        exact HK.out _ _ (Keep.refl _) rfl
      · -- 3
        refine LinStep.plain rfl ?_
        intro QQ bb T ww hn hJ hd K HK
        obtain ⟨x2, t2, f2⟩ := hJ.dep hd 2 23 (by kernel_rfl) (by kernel_rfl)
        obtain rfl : x2 = .string p := f2
        have G := hJ.keep
        clear hJ hd hn
        go_wp2_with (go_at_call 10; ((with_reducible refine (of_is rp p _ HP.out HRP).mono ?_); rintro e' w1 ⟨rfl, hk⟩))
        exact HK.out _ _ hk rfl
      · -- 4
        refine LinStep.plain rfl ?_
        intro QQ bb T ww hn hJ hd K HK
        have s0 := (hJ.oldSlot 0 (by kernel_rfl))
        simp only [List.getElem?_toArray, List.getElem?_cons_zero] at s0
        have G := hJ.keep
        clear hJ hd hn
        go_simp
        exact HK.out _ _ (Keep.refl _) rfl
      · -- 5
        refine LinStep.plain rfl ?_
        intro QQ bb T ww hn hJ hd K HK
        have s5 := (hJ.oldSlot 5 (by kernel_rfl))
        simp only [List.getElem?_toArray, List.getElem?_cons_zero, List.getElem?_cons_succ] at s5
        have G := hJ.keep
        clear hJ hd hn
        go_simp
        exact HK.out _ _ (Keep.refl _) rfl
      · -- 6
        refine LinStep.plain rfl ?_
        intro QQ bb T ww hn hJ hd K HK
        obtain ⟨x4, t4, f4⟩ := hJ.dep hd 4 25 (by kernel_rfl) (by kernel_rfl)
        obtain rfl : x4 = .string u := f4
        obtain ⟨x5, t5, f5⟩ := hJ.dep hd 5 26 (by kernel_rfl) (by kernel_rfl)
        obtain rfl : x5 = .int .i64 k := f5
        have G := hJ.keep
        clear hJ hd hn
        have hs := HSQ.out
        go_simp
        exact HK.out _ _ (Keep.refl _) rfl
      · -- 7
        refine LinStep.plain rfl ?_
        intro QQ bb T ww hn hJ hd K HK
        obtain ⟨x3, t3, f3⟩ := hJ.dep hd 3 24 (by kernel_rfl) (by kernel_rfl)
        obtain rfl : x3 = .int .u32 rp := f3
        obtain ⟨x6, t6, f6⟩ := hJ.dep hd 6 27 (by kernel_rfl) (by kernel_rfl)
        obtain rfl : x6 = .string q := f6
        have G := hJ.keep
        clear hJ hd hn
        go_wp2_with (go_at_call 12; ((with_reducible refine (ext_is rp r q _ HRPB.out HQ.out HRQ).mono ?_); rintro e' w1 ⟨rfl, hk⟩))
        exact HK.out _ _ hk rfl
      · -- 8
        refine LinStep.plain rfl ?_
        intro QQ bb T ww hn hJ hd K HK
        have s0 := (hJ.oldSlot 0 (by kernel_rfl))
        simp only [List.getElem?_toArray, List.getElem?_cons_zero] at s0
        have G := hJ.keep
        clear hJ hd hn
        go_simp
        exact HK.out _ _ (Keep.refl _) rfl
      · -- 9
        refine LinStep.plain rfl ?_
        intro QQ bb T ww hn hJ hd K HK
        obtain ⟨x8, t8, f8⟩ := hJ.dep hd 8 29 (by kernel_rfl) (by kernel_rfl)
        obtain rfl : x8 = .string u := f8
        have G := hJ.keep
        clear hJ hd hn
        go_wp2_with (go_at_call 10; ((with_reducible refine (of_is r u _ HU.out HR).mono ?_); rintro e' w1 ⟨rfl, hk⟩))
        exact HK.out _ _ hk rfl
      · -- 10
        refine LinStep.plain rfl ?_
        intro QQ bb T ww hn hJ hd K HK
        obtain ⟨x7, t7, f7⟩ := hJ.dep hd 7 28 (by kernel_rfl) (by kernel_rfl)
        obtain rfl : x7 = .int .u32 r := f7
        obtain ⟨x9, t9, f9⟩ := hJ.dep hd 9 30 (by kernel_rfl) (by kernel_rfl)
        obtain rfl : x9 = .int .u32 r := f9
        have G := hJ.keep
        clear hJ hd hn
        go_simp
        exact HK.out _ _ (Keep.refl _) rfl
      · -- 11
        refine LinStep.plain rfl ?_
        intro QQ bb T ww hn hJ hd K HK
        obtain ⟨x10, t10, f10⟩ := hJ.dep hd 10 31 (by kernel_rfl) (by kernel_rfl)
        obtain rfl : x10 = .bool true := f10
        have G := hJ.keep
        clear hJ hd hn
        go_simp
        exact HK.out _ _ (Keep.refl _) rfl
      · -- 12
        refine LinStep.guarded 11 32 true rfl (by kernel_rfl) (by kernel_rfl) (fun _ _ h => h) ?_
        intro QQ bb T ww hn hJ hd K HK
        have s0 := (hJ.oldSlot 0 (by kernel_rfl))
        simp only [List.getElem?_toArray, List.getElem?_cons_zero] at s0
        have G := hJ.keep
        clear hJ hd hn
        go_simp
        exact HK.out _ _ (Keep.refl _) rfl
      · -- 13
        refine LinStep.guarded 11 32 true rfl (by kernel_rfl) (by kernel_rfl) (fun _ _ h => h) ?_
        intro QQ bb T ww hn hJ hd K HK
        obtain ⟨x12, t12, f12⟩ := hJ.dep hd 12 33 (by kernel_rfl) (by kernel_rfl)
        obtain rfl : x12 = .string u := f12
        have G := hJ.keep
        clear hJ hd hn
        go_wp2_with (go_at_call 10; ((with_reducible refine (of_is r u _ HU.out HR).mono ?_); rintro e' w1 ⟨rfl, hk⟩))
        exact HK.out _ _ hk rfl
      · -- 14
        refine LinStep.guarded 11 32 true rfl (by kernel_rfl) (by kernel_rfl) (fun _ _ h => h) ?_
        intro QQ bb T ww hn hJ hd K HK
        obtain ⟨x13, t13, f13⟩ := hJ.dep hd 13 34 (by kernel_rfl) (by kernel_rfl)
        obtain rfl : x13 = .int .u32 r := f13
        have G := hJ.keep
        clear hJ hd hn
        go_wp2_with (go_at_call 12; ((with_reducible refine (ext_is r r ⟨#[]⟩ _ HRB.out HE.out HRE).mono ?_); rintro e' w1 ⟨rfl, hk⟩))
        exact HK.out _ _ hk rfl
      · -- 15
        refine LinStep.guarded 11 32 true rfl (by kernel_rfl) (by kernel_rfl) (fun _ _ h => h) ?_
        intro QQ bb T ww hn hJ hd K HK
        have s0 := (hJ.oldSlot 0 (by kernel_rfl))
        simp only [List.getElem?_toArray, List.getElem?_cons_zero] at s0
        have G := hJ.keep
        clear hJ hd hn
        go_simp
        exact HK.out _ _ (Keep.refl _) rfl
      · -- 16
        refine LinStep.guarded 11 32 true rfl (by kernel_rfl) (by kernel_rfl) (fun _ _ h => h) ?_
        intro QQ bb T ww hn hJ hd K HK
        obtain ⟨x15, t15, f15⟩ := hJ.dep hd 15 36 (by kernel_rfl) (by kernel_rfl)
        obtain rfl : x15 = .string u := f15
        have G := hJ.keep
        clear hJ hd hn
        go_wp2_with (go_at_call 10; ((with_reducible refine (of_is r u _ HU.out HR).mono ?_); rintro e' w1 ⟨rfl, hk⟩))
        exact HK.out _ _ hk rfl
      · -- 17
        refine LinStep.guarded 11 32 true rfl (by kernel_rfl) (by kernel_rfl) (fun _ _ h => h) ?_
        intro QQ bb T ww hn hJ hd K HK
        obtain ⟨x14, t14, f14⟩ := hJ.dep hd 14 35 (by kernel_rfl) (by kernel_rfl)
        obtain rfl : x14 = .int .u32 r := f14
        obtain ⟨x16, t16, f16⟩ := hJ.dep hd 16 37 (by kernel_rfl) (by kernel_rfl)
        obtain rfl : x16 = .int .u32 r := f16
        have G := hJ.keep
        clear hJ hd hn
        go_simp
        exact HK.out _ _ (Keep.refl _) rfl
      · -- 18
        refine LinStep.plain rfl ?_
        intro QQ bb T ww hn hJ hd K HK
        obtain ⟨x11, t11, f11⟩ := hJ.dep hd 11 32 (by kernel_rfl) (by kernel_rfl)
        obtain rfl : x11 = .bool true := f11
        obtain ⟨x17, t17, f17⟩ := hJ.dep hd 17 38 (by kernel_rfl) (by kernel_rfl)
        obtain rfl : x17 = .bool true := f17
        have G := hJ.keep
        clear hJ hd hn
        go_simp
        exact HK.out _ _ (Keep.refl _) rfl
      · -- 19
        refine LinStep.plain rfl ?_
        intro QQ bb T ww hn hJ hd K HK
        obtain ⟨x18, t18, f18⟩ := hJ.dep hd 18 39 (by kernel_rfl) (by kernel_rfl)
        obtain rfl : x18 = .bool true := f18
        have G := hJ.keep
        clear hJ hd hn
        go_simp
        exact HK.out _ _ (Keep.refl _) rfl
      · -- 20
        refine LinStep.guarded 19 40 true rfl (by kernel_rfl) (by kernel_rfl) (fun _ _ h => h) ?_
        intro QQ bb T ww hn hJ hd K HK
        have s6 := (hJ.oldSlot 6 (by kernel_rfl))
        simp only [List.getElem?_toArray, List.getElem?_cons_zero, List.getElem?_cons_succ] at s6
        have G := hJ.keep
        clear hJ hd hn
        go_simp
        exact HK.out _ _ (Keep.refl _) rfl
      · -- 21
        refine LinStep.guarded 19 40 true rfl (by kernel_rfl) (by kernel_rfl) (fun _ _ h => h) ?_
        intro QQ bb T ww hn hJ hd K HK
        obtain ⟨x20, t20, f20⟩ := hJ.dep hd 20 41 (by kernel_rfl) (by kernel_rfl)
        obtain rfl : x20 = .string t := f20
        have G := hJ.keep
        clear hJ hd hn
        have h2 := HM4.out
        go_simp
        exact HK.out _ _ (Keep.refl _) rfl
      · -- 22
        refine LinStep.guarded 19 40 true rfl (by kernel_rfl) (by kernel_rfl) (fun _ _ h => h) ?_
        intro QQ bb T ww hn hJ hd K HK
        have s0 := (hJ.oldSlot 0 (by kernel_rfl))
        simp only [List.getElem?_toArray, List.getElem?_cons_zero] at s0
        have G := hJ.keep
        clear hJ hd hn
        go_simp
        exact HK.out _ _ (Keep.refl _) rfl
      · -- 23
        refine LinStep.guarded 19 40 true rfl (by kernel_rfl) (by kernel_rfl) (fun _ _ h => h) ?_
        intro QQ bb T ww hn hJ hd K HK
        obtain ⟨x22, t22, f22⟩ := hJ.dep hd 22 43 (by kernel_rfl) (by kernel_rfl)
        obtain rfl : x22 = .string u := f22
        have G := hJ.keep
        clear hJ hd hn
        have h2 := HM.out
        go_simp
        exact HK.out _ _ (Keep.refl _) rfl
      · -- 24
        refine LinStep.guarded 19 40 true rfl (by kernel_rfl) (by kernel_rfl) (fun _ _ h => h) ?_
        intro QQ bb T ww hn hJ hd K HK
        obtain ⟨x23, t23, f23⟩ := hJ.dep hd 23 44 (by kernel_rfl) (by kernel_rfl)
        obtain rfl : x23 = .int .i64 M := f23
        have G := hJ.keep
        clear hJ hd hn
        have h2 := HW.out
        go_simp
        exact HK.out _ _ (Keep.refl _) rfl
      · -- 25
        refine LinStep.guarded 19 40 true rfl (by kernel_rfl) (by kernel_rfl) (fun _ _ h => h) ?_
        intro QQ bb T ww hn hJ hd K HK
        obtain ⟨x21, t21, f21⟩ := hJ.dep hd 21 42 (by kernel_rfl) (by kernel_rfl)
        obtain rfl : x21 = .int .i64 M4 := f21
        obtain ⟨x24, t24, f24⟩ := hJ.dep hd 24 45 (by kernel_rfl) (by kernel_rfl)
        obtain rfl : x24 = .int .i64 M4 := f24
        have G := hJ.keep
        clear hJ hd hn
        go_simp
        exact HK.out _ _ (Keep.refl _) rfl
      · -- 26
        refine LinStep.plain rfl ?_
        intro QQ bb T ww hn hJ hd K HK
        obtain ⟨x19, t19, f19⟩ := hJ.dep hd 19 40 (by kernel_rfl) (by kernel_rfl)
        obtain rfl : x19 = .bool true := f19
        obtain ⟨x25, t25, f25⟩ := hJ.dep hd 25 46 (by kernel_rfl) (by kernel_rfl)
        obtain rfl : x25 = .bool true := f25
        have G := hJ.keep
        clear hJ hd hn
        go_simp
        exact HK.out _ _ (Keep.refl _) rfl
      · -- 27
        refine LinStep.plain rfl ?_
        intro QQ bb T ww hn hJ hd K HK
        obtain ⟨x26, t26, f26⟩ := hJ.dep hd 26 47 (by kernel_rfl) (by kernel_rfl)
        obtain rfl : x26 = .bool true := f26
        have G := hJ.keep
        clear hJ hd hn
        go_simp
        exact HK.out _ _ (Keep.refl _) rfl
      · -- 28
        refine LinStep.guarded 27 48 true rfl (by kernel_rfl) (by kernel_rfl) (fun _ _ h => h) ?_
        intro QQ bb T ww hn hJ hd K HK
        have s6 := (hJ.oldSlot 6 (by kernel_rfl))
        simp only [List.getElem?_toArray, List.getElem?_cons_zero, List.getElem?_cons_succ] at s6
        have G := hJ.keep
        clear hJ hd hn
        go_simp
        exact HK.out _ _ (Keep.refl _) rfl
      · -- 29
        refine LinStep.guarded 27 48 true rfl (by kernel_rfl) (by kernel_rfl) (fun _ _ h => h) ?_
        intro QQ bb T ww hn hJ hd K HK
        have s0 := (hJ.oldSlot 0 (by kernel_rfl))
        simp only [List.getElem?_toArray, List.getElem?_cons_zero] at s0
        have G := hJ.keep
        clear hJ hd hn
        go_simp
        exact HK.out _ _ (Keep.refl _) rfl
      · -- 30
        refine LinStep.guarded 27 48 true rfl (by kernel_rfl) (by kernel_rfl) (fun _ _ h => h) ?_
        intro QQ bb T ww hn hJ hd K HK
        obtain ⟨x29, t29, f29⟩ := hJ.dep hd 29 50 (by kernel_rfl) (by kernel_rfl)
        obtain rfl : x29 = .string u := f29
        have G := hJ.keep
        clear hJ hd hn
        have h2 := HM.out
        go_simp
        exact HK.out _ _ (Keep.refl _) rfl
      · -- 31
        refine LinStep.guarded 27 48 true rfl (by kernel_rfl) (by kernel_rfl) (fun _ _ h => h) ?_
        intro QQ bb T ww hn hJ hd K HK
        obtain ⟨x28, t28, f28⟩ := hJ.dep hd 28 49 (by kernel_rfl) (by kernel_rfl)
        obtain rfl : x28 = .string t := f28
        obtain ⟨x30, t30, f30⟩ := hJ.dep hd 30 51 (by kernel_rfl) (by kernel_rfl)
        obtain rfl : x30 = .int .i64 M := f30
        have G := hJ.keep
        clear hJ hd hn
        have hs := HST.out
        go_simp
        exact HK.out _ _ (Keep.refl _) rfl
      · -- 32
        refine LinStep.guarded 27 48 true rfl (by kernel_rfl) (by kernel_rfl) (fun _ _ h => h) ?_
        intro QQ bb T ww hn hJ hd K HK
        have s0 := (hJ.oldSlot 0 (by kernel_rfl))
        simp only [List.getElem?_toArray, List.getElem?_cons_zero] at s0
        have G := hJ.keep
        clear hJ hd hn
        go_simp
        exact HK.out _ _ (Keep.refl _) rfl
      · -- 33
        refine LinStep.guarded 27 48 true rfl (by kernel_rfl) (by kernel_rfl) (fun _ _ h => h) ?_
        intro QQ bb T ww hn hJ hd K HK
        obtain ⟨x31, t31, f31⟩ := hJ.dep hd 31 52 (by kernel_rfl) (by kernel_rfl)
        obtain rfl : x31 = .string u := f31
        obtain ⟨x32, t32, f32⟩ := hJ.dep hd 32 53 (by kernel_rfl) (by kernel_rfl)
        obtain rfl : x32 = .string u := f32
        have G := hJ.keep
        clear hJ hd hn
        have hb := HBU.out
        go_simp
        exact HK.out _ _ (Keep.refl _) rfl
      · -- 34
        refine LinStep.plain rfl ?_
        intro QQ bb T ww hn hJ hd K HK
        obtain ⟨x27, t27, f27⟩ := hJ.dep hd 27 48 (by kernel_rfl) (by kernel_rfl)
        obtain rfl : x27 = .bool true := f27
        obtain ⟨x33, t33, f33⟩ := hJ.dep hd 33 54 (by kernel_rfl) (by kernel_rfl)
        obtain rfl : x33 = .bool true := f33
        have G := hJ.keep
        clear hJ hd hn
        go_simp
        exact HK.out _ _ (Keep.refl _) rfl
      · -- 35
        refine LinStep.plain rfl ?_
        intro QQ bb T ww hn hJ hd K HK
        obtain ⟨x34, t34, f34⟩ := hJ.dep hd 34 55 (by kernel_rfl) (by kernel_rfl)
        obtain rfl : x34 = .bool true := f34
        have G := hJ.keep
        clear hJ hd hn
        go_simp
        exact HK.out _ _ (Keep.refl _) rfl
      · -- 36
        refine LinStep.guarded 35 56 true rfl (by kernel_rfl) (by kernel_rfl) (fun _ _ h => h) ?_
        intro QQ bb T ww hn hJ hd K HK
        have s6 := (hJ.oldSlot 6 (by kernel_rfl))
        simp only [List.getElem?_toArray, List.getElem?_cons_zero, List.getElem?_cons_succ] at s6
        have G := hJ.keep
        clear hJ hd hn
        go_simp
        exact HK.out _ _ (Keep.refl _) rfl
      · -- 37
        refine LinStep.guarded 35 56 true rfl (by kernel_rfl) (by kernel_rfl) (fun _ _ h => h) ?_
        intro QQ bb T ww hn hJ hd K HK
        obtain ⟨x36, t36, f36⟩ := hJ.dep hd 36 57 (by kernel_rfl) (by kernel_rfl)
        obtain rfl : x36 = .string t := f36
        have G := hJ.keep
        clear hJ hd hn
        go_wp2_with (go_at_call 16; ((with_reducible refine (seal_is t tt _ HTZ.out HTT).mono ?_); rintro e' w1 ⟨rfl, hk⟩))
        exact HK.out _ _ hk rfl
      · -- 38
        refine LinStep.guarded 35 56 true rfl (by kernel_rfl) (by kernel_rfl) (fun _ _ h => h) ?_
        intro QQ bb T ww hn hJ hd K HK
        obtain ⟨x37, t37, f37⟩ := hJ.dep hd 37 58 (by kernel_rfl) (by kernel_rfl)
        obtain rfl : x37 = .string tt := f37
        have G := hJ.keep
        clear hJ hd hn
        go_wp2_with (go_at_call 22; ((with_reducible refine (good_is tt true _ HTTZ.out HGT).mono ?_); rintro e' w1 ⟨rfl, hk⟩))
        exact HK.out _ _ hk rfl
      · -- 39
        refine LinStep.plain rfl ?_
        intro QQ bb T ww hn hJ hd K HK
        obtain ⟨x35, t35, f35⟩ := hJ.dep hd 35 56 (by kernel_rfl) (by kernel_rfl)
        obtain rfl : x35 = .bool true := f35
        obtain ⟨x38, t38, f38⟩ := hJ.dep hd 38 59 (by kernel_rfl) (by kernel_rfl)
        obtain rfl : x38 = .bool true := f38
        have G := hJ.keep
        clear hJ hd hn
        go_simp
        exact HK.out _ _ (Keep.refl _) rfl
      · -- 40
        refine LinStep.plain rfl ?_
        intro QQ bb T ww hn hJ hd K HK
        obtain ⟨x39, t39, f39⟩ := hJ.dep hd 39 60 (by kernel_rfl) (by kernel_rfl)
        obtain rfl : x39 = .bool true := f39
        have G := hJ.keep
        clear hJ hd hn
        go_simp
        exact HK.out _ _ (Keep.refl _) rfl
      · -- 41
        refine LinStep.guarded 40 61 true rfl (by kernel_rfl) (by kernel_rfl) (fun _ _ h => h) ?_
        intro QQ bb T ww hn hJ hd K HK
        have s6 := (hJ.oldSlot 6 (by kernel_rfl))
        simp only [List.getElem?_toArray, List.getElem?_cons_zero, List.getElem?_cons_succ] at s6
        have G := hJ.keep
        clear hJ hd hn
        go_simp
        exact HK.out _ _ (Keep.refl _) rfl
      · -- 42
        refine LinStep.guarded 40 61 true rfl (by kernel_rfl) (by kernel_rfl) (fun _ _ h => h) ?_
        intro QQ bb T ww hn hJ hd K HK
        obtain ⟨x41, t41, f41⟩ := hJ.dep hd 41 62 (by kernel_rfl) (by kernel_rfl)
        obtain rfl : x41 = .string t := f41
        have G := hJ.keep
        clear hJ hd hn
        go_wp2_with (go_at_call 10; ((with_reducible refine (of_is 558161692 t _ HTM.out HRT).mono ?_); rintro e' w1 ⟨rfl, hk⟩))
        exact HK.out _ _ hk rfl
      · -- 43
        refine LinStep.guarded 40 61 true rfl (by kernel_rfl) (by kernel_rfl) (fun _ _ h => h) ?_
        intro QQ bb T ww hn hJ hd K HK
        obtain ⟨x42, t42, f42⟩ := hJ.dep hd 42 63 (by kernel_rfl) (by kernel_rfl)
        obtain rfl : x42 = .int .u32 558161692 := f42
        have G := hJ.keep
        clear hJ hd hn
        go_simp
        exact HK.out _ _ (Keep.refl _) rfl
      · -- 44
        refine LinStep.plain rfl ?_
        intro QQ bb T ww hn hJ hd K HK
        obtain ⟨x40, t40, f40⟩ := hJ.dep hd 40 61 (by kernel_rfl) (by kernel_rfl)
        obtain rfl : x40 = .bool true := f40
        obtain ⟨x43, t43, f43⟩ := hJ.dep hd 43 64 (by kernel_rfl) (by kernel_rfl)
        obtain rfl : x43 = .bool true := f43
        have G := hJ.keep
        clear hJ hd hn
        go_simp
        exact HK.out _ _ (Keep.refl _) rfl
      · -- 45
        refine LinStep.plain rfl ?_
        intro QQ bb T ww hn hJ hd K HK
        obtain ⟨x44, t44, f44⟩ := hJ.dep hd 44 65 (by kernel_rfl) (by kernel_rfl)
        obtain rfl : x44 = .bool true := f44
        have G := hJ.keep
        clear hJ hd hn
        go_simp
        exact HK.out _ _ (Keep.refl _) rfl
end Go.Proofs.Ytmpnmodicigcmaa
