/- CrcLinear answers true for every input. -/
import Derived.Test.YtmpnmodicigcmaaCLinM
import Derived.Test.YtmpnmodicigcmaaLin
import Derived.Deep.Cut
import Derived.Deep.DeepCutAuto
import Derived.BigRegion
import Derived.BigQuiet
import Derived.RegionTactic
import Derived.IntWalk
namespace Go.Proofs.Ytmpnmodicigcmaa
open Go Go.RowKit

theorem byte_at (s : ByteArray) (k : Nat) (h : k < s.size) : s[k] = s.data.toList.getD k 0 := by
  have hl : k < s.data.toList.length := h
  rw [List.getD, List.getElem?_eq_getElem hl]
  rfl
theorem take_list (s : ByteArray) (n : Nat) : (s.extract 0 n).data.toList = s.data.toList.take n := by
  rw [extract_list, List.drop_zero, Nat.sub_zero]
set_option maxRecDepth 100000 in
set_option maxHeartbeats 2000000 in
theorem lawLinear_any (a b c : ByteArray) (w : World) (ha : a.size ≤ maxLen) (hb : b.size ≤ maxLen) (hc : c.size ≤ maxLen) : Calls Try.prog 7 #[.string a, .string b, .string c] w (Res (.bool true) w) := by
  unfold maxLen at ha hb hc
  go_enter Try.func7, Try.ntmps7
  go_upto_region 3 with (go_at_call 20; ((with_reducible refine (works_any _).mono ?_); rintro e' w0 ⟨rfl, k0⟩))
  go_cut [7] (fun v wx => ∃ n : Nat, v = .int .i64 n ∧ n ≤ 100 ∧ n ≤ a.size ∧ n ≤ b.size ∧ n ≤ c.size ∧ Hid (Keep w wx))
  case first =>
    have HK0 := Lib.hid k0
    clear k0
    go_wp2
    all_goals go_meet
    all_goals first | exact ⟨a.size, rfl, by omega, by omega, by omega, by omega, HK0⟩ | exact ⟨b.size, rfl, by omega, by omega, by omega, by omega, HK0⟩ | exact ⟨c.size, rfl, by omega, by omega, by omega, by omega, HK0⟩ | exact ⟨100, rfl, by omega, by omega, by omega, by omega, HK0⟩
  case rest =>
    obtain ⟨n, rfl, hn, hna, hnb, hnc, HK⟩ := hcut
    obtain ⟨i0, hi, hz0, hz1, hz2⟩ := info_parts infoU8
    go_upto_region 4 with fail
    go_wp2_with (at_make; refine wpList_make_full _ rfl _ _ 37 rfl wc.heap.size 5 i0 (.int .u8 0) 1 Try.underlying37 hi hz0 hz1 .i64 .i64 _ _ n rfl rfl rfl rfl (by rw [hz2]; omega) (by unfold maxLen; omega) (Nat.le_refl _) ?_; intro wk hown0 hgrow0)
    have hgr := Keep.by (Keep.refl wc) hgrow0
    obtain ⟨hB, hbt⟩ := bytes_made hown0
    have HK1 := Lib.hid (HK.out.trans hgr)
    have HBW : Hid (w.heap.size ≤ wc.heap.size) := Lib.hid HK.out.size
    obtain ⟨B, hBB⟩ : ∃ B, wc.heap.size = B := ⟨_, rfl⟩
    rw [hBB] at hbt HBW
    rw [hBB]
    obtain ⟨la, hla⟩ : ∃ l, a.data.toList = l := ⟨_, rfl⟩
    obtain ⟨lb, hlb⟩ : ∃ l, b.data.toList = l := ⟨_, rfl⟩
    obtain ⟨lc, hlc⟩ : ∃ l, c.data.toList = l := ⟨_, rfl⟩
    rw [← xorK_zero la lb lc n] at hbt
    have HB0 := Lib.hid hbt
    have HLA := Lib.hid hla
    have HLB := Lib.hid hlb
    have HLC := Lib.hid hlc
    clear hBB hB hbt hgr hown0 hgrow0 hla hlb hlc hi hz0 hz1 hz2
    go_loopw [9] (fun i wr => ∃ k : Nat, k ≤ n ∧ i = .int .i64 k ∧ Hid (Keep w wr) ∧ Hid (BytesAt wr B (xorK la lb lc n k))) (fun i _ => n - (intOf i).toNat)
    case atStart => exact ⟨0, by omega, rfl, HK1, HB0⟩
    case round =>
    obtain ⟨k, hk, rfl, HKr, HBr⟩ := hrel
    by_cases hlt : k < n
    · obtain ⟨xa, hxa⟩ : ∃ x, la.getD k 0 = x := ⟨_, rfl⟩
      obtain ⟨xb, hxb⟩ : ∃ x, lb.getD k 0 = x := ⟨_, rfl⟩
      obtain ⟨xc, hxc⟩ : ∃ x, lc.getD k 0 = x := ⟨_, rfl⟩
      have ea := fun w => index_str a k k w (xa.toNat : Int) rfl (by omega) (by rw [byte_at a k (by omega), HLA.out, hxa])
      have eb := fun w => index_str b k k w (xb.toNat : Int) rfl (by omega) (by rw [byte_at b k (by omega), HLB.out, hxb])
      have ec := fun w => index_str c k k w (xc.toNat : Int) rfl (by omega) (by rw [byte_at c k (by omega), HLC.out, hxc])
      have ev := xorO_val xa xb xc
      have HV : Hid (xorO la lb lc k = (xa ^^^ xb) ^^^ xc) := Lib.hid (by unfold xorO; rw [hxa, hxb, hxc])
      obtain ⟨v, hv⟩ : ∃ v, (xa ^^^ xb) ^^^ xc = v := ⟨_, rfl⟩
      rw [hv] at ev
      have HV2 := Lib.hid hv
      have hlen := xorK_length la lb lc n k
      have hcell := HBr.out.cell k (by omega)
      have hfro := HBr.out.free k (by omega)
      obtain ⟨z0, hz0⟩ : ∃ z0 : Int, (((xorK la lb lc n k).getD k 0).toNat : Int) = z0 := ⟨_, rfl⟩
      rw [hz0] at hcell
      obtain ⟨zv, hzv⟩ : ∃ zv : Int, (v.toNat : Int) = zv := ⟨_, rfl⟩
      rw [hzv] at ev
      have HZ := Lib.hid hzv
      generalize (xa.toNat : Int) = za at *
      generalize (xb.toNat : Int) = zb at *
      generalize (xc.toNat : Int) = zc at *
      clear hxa hxb hxc hv hlen hz0 hzv
      go_wp2
      go_region
      go_wp2
      go_roundw
      case rel => exact ⟨k + 1, by omega, by go_num, Lib.hid (Keep.drew (HKr.out.setCell HBW.out _)), Lib.hid (by
        rw [← xorK_set, HV.out, HV2.out, ← HZ.out]
        exact (HBr.out.stored k v (by rw [xorK_length]; exact hlt)).drew)⟩
      case measure => simp [intOf]; omega
    · obtain rfl : n = k := by omega
      obtain ⟨x, hx⟩ : ∃ x : ByteArray, (⟨(xorK la lb lc n n).toArray⟩ : ByteArray) = x := ⟨_, rfl⟩
      have hxl : x.data.toList = xorK la lb lc n n := by rw [← hx]
      obtain ⟨pa, hpa⟩ : ∃ p, a.extract 0 n = p := ⟨_, rfl⟩
      obtain ⟨pb, hpb⟩ : ∃ p, b.extract 0 n = p := ⟨_, rfl⟩
      obtain ⟨pc, hpc⟩ : ∃ p, c.extract 0 n = p := ⟨_, rfl⟩
      have la1 : pa.data.toList = la.take n := by rw [← hpa, take_list, HLA.out]
      have lb1 : pb.data.toList = lb.take n := by rw [← hpb, take_list, HLB.out]
      have lc1 : pc.data.toList = lc.take n := by rw [← hpc, take_list, HLC.out]
      have za : la.length = a.size := by rw [← HLA.out]; rfl
      have zb : lb.length = b.size := by rw [← HLB.out]; rfl
      have zc : lc.length = c.size := by rw [← HLC.out]; rfl
      have hthree : extB 0#32 x.data.toList = (extB 0#32 pa.data.toList ^^^ extB 0#32 pb.data.toList) ^^^ extB 0#32 pc.data.toList := by
        rw [hxl, la1, lb1, lc1]
        exact crc_three (by rw [xorK_length, List.length_take]; omega) (by rw [xorK_length, List.length_take]; omega) (by rw [xorK_length, List.length_take]; omega) (xorK_bit la lb lc n)
      obtain ⟨r0, h0⟩ : ∃ r, cv (extB 0#32 x.data.toList) = r := ⟨_, rfl⟩
      obtain ⟨ra, hra⟩ : ∃ r, cv (extB 0#32 pa.data.toList) = r := ⟨_, rfl⟩
      obtain ⟨rb, hrb⟩ : ∃ r, cv (extB 0#32 pb.data.toList) = r := ⟨_, rfl⟩
      obtain ⟨rc, hrc⟩ : ∃ r, cv (extB 0#32 pc.data.toList) = r := ⟨_, rfl⟩
      obtain ⟨rab, hrab⟩ : ∃ r, cv (extB 0#32 pa.data.toList ^^^ extB 0#32 pb.data.toList) = r := ⟨_, rfl⟩
      have HAB : Hid (bits .xor .u32 ra rb = rab) := Lib.hid (by rw [← hra, ← hrb, ← hrab, cv_xor])
      have HABC : Hid (bits .xor .u32 rab rc = r0) := Lib.hid (by rw [← hrab, ← hrc, ← h0, hthree, cv_xor])
      have H0 := Lib.hid h0
      have HA := Lib.hid hra
      have HB := Lib.hid hrb
      have HC := Lib.hid hrc
      have HX : Hid (x.size ≤ maxLen) := Lib.hid (by
        have : x.size = n := by show x.data.toList.length = n; rw [hxl, xorK_length]
        unfold maxLen; omega)
      have HPA : Hid (pa.size ≤ maxLen) := Lib.hid (by rw [← hpa, ByteArray.size_extract]; unfold maxLen; omega)
      have HPB : Hid (pb.size ≤ maxLen) := Lib.hid (by rw [← hpb, ByteArray.size_extract]; unfold maxLen; omega)
      have HPC : Hid (pc.size ≤ maxLen) := Lib.hid (by rw [← hpc, ByteArray.size_extract]; unfold maxLen; omega)
      have HSA : Hid (∀ wy : World, (Instr.slice 9 (.string a) none (some (.int .i64 n)) none).run Try.prog wy = .ok (.string pa) wy) := Lib.hid (by rw [← hpa]; exact slice_to a n hna)
      have HSB : Hid (∀ wy : World, (Instr.slice 9 (.string b) none (some (.int .i64 n)) none).run Try.prog wy = .ok (.string pb) wy) := Lib.hid (by rw [← hpb]; exact slice_to b n hnb)
      have HSC : Hid (∀ wy : World, (Instr.slice 9 (.string c) none (some (.int .i64 n)) none).run Try.prog wy = .ok (.string pc) wy) := Lib.hid (by rw [← hpc]; exact slice_to c n hnc)
      have HCV : Hid (∀ wy : World, Keep wr wy → (convert 37 9 (.slice (some ⟨B, 0, none⟩) n n)).run Try.prog wy = .ok (.string x) wy) := Lib.hid (fun wy kk => by
        rw [← hx]
        exact bytes_back (HBr.out.keep kk) n (xorK_length _ _ _ _ _))
      clear hx hxl hpa hpb hpc la1 lb1 lc1 za zb zc hthree h0 hra hrb hrc hrab
      go_upto_region 9 with fail
      refine region_lin (W0 := wr) (listF [fun v ww => v = .slice (some ⟨B, 0, none⟩) n n, fun v ww => v = .string x, fun v ww => v = .int .u32 r0, fun v ww => v = .string a, fun v ww => v = .int .i64 n, fun v ww => v = .string pa, fun v ww => v = .int .u32 ra, fun v ww => v = .string b, fun v ww => v = .int .i64 n, fun v ww => v = .string pb, fun v ww => v = .int .u32 rb, fun v ww => v = .int .u32 rab, fun v ww => v = .string c, fun v ww => v = .int .i64 n, fun v ww => v = .string pc, fun v ww => v = .int .u32 rc, fun v ww => v = .int .u32 r0, fun v ww => v = .bool true, fun v ww => v = .bool true]) (listF_stable _ ⟨fun _ _ _ _ h => h, fun _ _ _ _ h => h, fun _ _ _ _ h => h, fun _ _ _ _ h => h, fun _ _ _ _ h => h, fun _ _ _ _ h => h, fun _ _ _ _ h => h, fun _ _ _ _ h => h, fun _ _ _ _ h => h, fun _ _ _ _ h => h, fun _ _ _ _ h => h, fun _ _ _ _ h => h, fun _ _ _ _ h => h, fun _ _ _ _ h => h, fun _ _ _ _ h => h, fun _ _ _ _ h => h, fun _ _ _ _ h => h, fun _ _ _ _ h => h, fun _ _ _ _ h => h, trivial⟩) (by kernel_rfl) (by kernel_rfl) (by kernel_rfl) (by kernel_rfl) (Keep.refl _) ?done9 ?steps9
      case done9 =>
        intro T9 wz9 hJ
        obtain ⟨x0, t0, f0⟩ := hJ.fact 0 42 (by decide) (by kernel_rfl)
        obtain rfl : x0 = .slice (some ⟨B, 0, none⟩) n n := f0
        obtain ⟨x1, t1, f1⟩ := hJ.fact 1 43 (by decide) (by kernel_rfl)
        obtain rfl : x1 = .string x := f1
        obtain ⟨x2, t2, f2⟩ := hJ.fact 2 44 (by decide) (by kernel_rfl)
        obtain rfl : x2 = .int .u32 r0 := f2
        obtain ⟨x3, t3, f3⟩ := hJ.fact 3 45 (by decide) (by kernel_rfl)
        obtain rfl : x3 = .string a := f3
        obtain ⟨x4, t4, f4⟩ := hJ.fact 4 46 (by decide) (by kernel_rfl)
        obtain rfl : x4 = .int .i64 n := f4
        obtain ⟨x5, t5, f5⟩ := hJ.fact 5 47 (by decide) (by kernel_rfl)
        obtain rfl : x5 = .string pa := f5
        obtain ⟨x6, t6, f6⟩ := hJ.fact 6 48 (by decide) (by kernel_rfl)
        obtain rfl : x6 = .int .u32 ra := f6
        obtain ⟨x7, t7, f7⟩ := hJ.fact 7 49 (by decide) (by kernel_rfl)
        obtain rfl : x7 = .string b := f7
        obtain ⟨x8, t8, f8⟩ := hJ.fact 8 50 (by decide) (by kernel_rfl)
        obtain rfl : x8 = .int .i64 n := f8
        obtain ⟨x9, t9, f9⟩ := hJ.fact 9 51 (by decide) (by kernel_rfl)
        obtain rfl : x9 = .string pb := f9
        obtain ⟨x10, t10, f10⟩ := hJ.fact 10 52 (by decide) (by kernel_rfl)
        obtain rfl : x10 = .int .u32 rb := f10
        obtain ⟨x11, t11, f11⟩ := hJ.fact 11 53 (by decide) (by kernel_rfl)
        obtain rfl : x11 = .int .u32 rab := f11
        obtain ⟨x12, t12, f12⟩ := hJ.fact 12 54 (by decide) (by kernel_rfl)
        obtain rfl : x12 = .string c := f12
        obtain ⟨x13, t13, f13⟩ := hJ.fact 13 55 (by decide) (by kernel_rfl)
        obtain rfl : x13 = .int .i64 n := f13
        obtain ⟨x14, t14, f14⟩ := hJ.fact 14 56 (by decide) (by kernel_rfl)
        obtain rfl : x14 = .string pc := f14
        obtain ⟨x15, t15, f15⟩ := hJ.fact 15 57 (by decide) (by kernel_rfl)
        obtain rfl : x15 = .int .u32 rc := f15
        obtain ⟨x16, t16, f16⟩ := hJ.fact 16 58 (by decide) (by kernel_rfl)
        obtain rfl : x16 = .int .u32 r0 := f16
        obtain ⟨x17, t17, f17⟩ := hJ.fact 17 59 (by decide) (by kernel_rfl)
        obtain rfl : x17 = .bool true := f17
        obtain ⟨x18, t18, f18⟩ := hJ.fact 18 6 (by decide) (by kernel_rfl)
        obtain rfl : x18 = .bool true := f18
        have hfr := hJ.frame [(42, .slice (some ⟨B, 0, none⟩) n n), (43, .string x), (44, .int .u32 r0), (45, .string a), (46, .int .i64 n), (47, .string pa), (48, .int .u32 ra), (49, .string b), (50, .int .i64 n), (51, .string pb), (52, .int .u32 rb), (53, .int .u32 rab), (54, .string c), (55, .int .i64 n), (56, .string pc), (57, .int .u32 rc), (58, .int .u32 r0), (59, .bool true), (6, .bool true)] (by simp [t0, t1, t2, t3, t4, t5, t6, t7, t8, t9, t10, t11, t12, t13, t14, t15, t16, t17, t18]) (by kernel_rfl)
        have G := hJ.keep
        clear hJ t0 t1 t2 t3 t4 t5 t6 t7 t8 t9 t10 t11 t12 t13 t14 t15 t16 t17 t18
        rw [hfr]
        clear hfr T9
        simp only [List.foldl_cons, List.foldl_nil, List.setIfInBounds_toArray, List.set_cons_zero, List.set_cons_succ]
        go_wp2
        go_ret
        exact ⟨rfl, HKr.out.trans G⟩
      case steps9 =>
        refine LinSteps.cons (k := 0) ?_ (LinSteps.cons (k := 1) ?_ (LinSteps.cons (k := 2) ?_ (LinSteps.cons (k := 3) ?_ (LinSteps.cons (k := 4) ?_ (LinSteps.cons (k := 5) ?_ (LinSteps.cons (k := 6) ?_ (LinSteps.cons (k := 7) ?_ (LinSteps.cons (k := 8) ?_ (LinSteps.cons (k := 9) ?_ (LinSteps.cons (k := 10) ?_ (LinSteps.cons (k := 11) ?_ (LinSteps.cons (k := 12) ?_ (LinSteps.cons (k := 13) ?_ (LinSteps.cons (k := 14) ?_ (LinSteps.cons (k := 15) ?_ (LinSteps.cons (k := 16) ?_ (LinSteps.cons (k := 17) ?_ (LinSteps.cons (k := 18) ?_ (LinSteps.nil)))))))))))))))))))
        · -- 0
          refine LinStep.plain rfl ?_
          intro QQ bb T ww hn hJ hd K HK
          have s8 := (hJ.oldSlot 8 (by kernel_rfl))
          simp only [List.getElem?_toArray, List.getElem?_cons_zero, List.getElem?_cons_succ] at s8
          have G := hJ.keep
          clear hJ hd hn
          go_simp
          exact HK.out _ _ (Keep.refl _) rfl
        · -- 1
          refine LinStep.plain rfl ?_
          intro QQ bb T ww hn hJ hd K HK
          obtain ⟨x0, t0, f0⟩ := hJ.dep hd 0 42 (by kernel_rfl) (by kernel_rfl)
          obtain rfl : x0 = .slice (some ⟨B, 0, none⟩) n n := f0
          have G := hJ.keep
          clear hJ hd hn
          have hcv := HCV.out _ G
          go_simp
          exact HK.out _ _ (Keep.refl _) rfl
        · -- 2
          refine LinStep.plain rfl ?_
          intro QQ bb T ww hn hJ hd K HK
          obtain ⟨x1, t1, f1⟩ := hJ.dep hd 1 43 (by kernel_rfl) (by kernel_rfl)
          obtain rfl : x1 = .string x := f1
          have G := hJ.keep
          clear hJ hd hn
          go_wp2_with (go_at_call 10; ((with_reducible refine (of_is r0 x _ HX.out H0).mono ?_); rintro e' w1 ⟨rfl, hk⟩))
          exact HK.out _ _ hk rfl
        · -- 3
          refine LinStep.plain rfl ?_
          intro QQ bb T ww hn hJ hd K HK
          have s0 := (hJ.oldSlot 0 (by kernel_rfl))
          simp only [List.getElem?_toArray, List.getElem?_cons_zero] at s0
          have G := hJ.keep
          clear hJ hd hn
          go_simp
          exact HK.out _ _ (Keep.refl _) rfl
        · -- 4
          refine LinStep.plain rfl ?_
          intro QQ bb T ww hn hJ hd K HK
          have s7 := (hJ.oldSlot 7 (by kernel_rfl))
          simp only [List.getElem?_toArray, List.getElem?_cons_zero, List.getElem?_cons_succ] at s7
          have G := hJ.keep
          clear hJ hd hn
          go_simp
          exact HK.out _ _ (Keep.refl _) rfl
        · -- 5
          refine LinStep.plain rfl ?_
          intro QQ bb T ww hn hJ hd K HK
          obtain ⟨x3, t3, f3⟩ := hJ.dep hd 3 45 (by kernel_rfl) (by kernel_rfl)
          obtain rfl : x3 = .string a := f3
          obtain ⟨x4, t4, f4⟩ := hJ.dep hd 4 46 (by kernel_rfl) (by kernel_rfl)
          obtain rfl : x4 = .int .i64 n := f4
          have G := hJ.keep
          clear hJ hd hn
          have hs := HSA.out
          go_simp
          exact HK.out _ _ (Keep.refl _) rfl
        · -- 6
          refine LinStep.plain rfl ?_
          intro QQ bb T ww hn hJ hd K HK
          obtain ⟨x5, t5, f5⟩ := hJ.dep hd 5 47 (by kernel_rfl) (by kernel_rfl)
          obtain rfl : x5 = .string pa := f5
          have G := hJ.keep
          clear hJ hd hn
          go_wp2_with (go_at_call 10; ((with_reducible refine (of_is ra pa _ HPA.out HA).mono ?_); rintro e' w1 ⟨rfl, hk⟩))
          exact HK.out _ _ hk rfl
        · -- 7
          refine LinStep.plain rfl ?_
          intro QQ bb T ww hn hJ hd K HK
          have s1 := (hJ.oldSlot 1 (by kernel_rfl))
          simp only [List.getElem?_toArray, List.getElem?_cons_zero, List.getElem?_cons_succ] at s1
          have G := hJ.keep
          clear hJ hd hn
          go_simp
          exact HK.out _ _ (Keep.refl _) rfl
        · -- 8
          refine LinStep.plain rfl ?_
          intro QQ bb T ww hn hJ hd K HK
          have s7 := (hJ.oldSlot 7 (by kernel_rfl))
          simp only [List.getElem?_toArray, List.getElem?_cons_zero, List.getElem?_cons_succ] at s7
          have G := hJ.keep
          clear hJ hd hn
          go_simp
          exact HK.out _ _ (Keep.refl _) rfl
        · -- 9
          refine LinStep.plain rfl ?_
          intro QQ bb T ww hn hJ hd K HK
          obtain ⟨x7, t7, f7⟩ := hJ.dep hd 7 49 (by kernel_rfl) (by kernel_rfl)
          obtain rfl : x7 = .string b := f7
          obtain ⟨x8, t8, f8⟩ := hJ.dep hd 8 50 (by kernel_rfl) (by kernel_rfl)
          obtain rfl : x8 = .int .i64 n := f8
          have G := hJ.keep
          clear hJ hd hn
          have hs := HSB.out
          go_simp
          exact HK.out _ _ (Keep.refl _) rfl
        · -- 10
          refine LinStep.plain rfl ?_
          intro QQ bb T ww hn hJ hd K HK
          obtain ⟨x9, t9, f9⟩ := hJ.dep hd 9 51 (by kernel_rfl) (by kernel_rfl)
          obtain rfl : x9 = .string pb := f9
          have G := hJ.keep
          clear hJ hd hn
          go_wp2_with (go_at_call 10; ((with_reducible refine (of_is rb pb _ HPB.out HB).mono ?_); rintro e' w1 ⟨rfl, hk⟩))
          exact HK.out _ _ hk rfl
        · -- 11
          refine LinStep.plain rfl ?_
          intro QQ bb T ww hn hJ hd K HK
          obtain ⟨x6, t6, f6⟩ := hJ.dep hd 6 48 (by kernel_rfl) (by kernel_rfl)
          obtain rfl : x6 = .int .u32 ra := f6
          obtain ⟨x10, t10, f10⟩ := hJ.dep hd 10 52 (by kernel_rfl) (by kernel_rfl)
          obtain rfl : x10 = .int .u32 rb := f10
          have G := hJ.keep
          clear hJ hd hn
          have hx := HAB.out
          go_simp
          exact HK.out _ _ (Keep.refl _) rfl
        · -- 12
          refine LinStep.plain rfl ?_
          intro QQ bb T ww hn hJ hd K HK
          have s2 := (hJ.oldSlot 2 (by kernel_rfl))
          simp only [List.getElem?_toArray, List.getElem?_cons_zero, List.getElem?_cons_succ] at s2
          have G := hJ.keep
          clear hJ hd hn
          go_simp
          exact HK.out _ _ (Keep.refl _) rfl
        · -- 13
          refine LinStep.plain rfl ?_
          intro QQ bb T ww hn hJ hd K HK
          have s7 := (hJ.oldSlot 7 (by kernel_rfl))
          simp only [List.getElem?_toArray, List.getElem?_cons_zero, List.getElem?_cons_succ] at s7
          have G := hJ.keep
          clear hJ hd hn
          go_simp
          exact HK.out _ _ (Keep.refl _) rfl
        · -- 14
          refine LinStep.plain rfl ?_
          intro QQ bb T ww hn hJ hd K HK
          obtain ⟨x12, t12, f12⟩ := hJ.dep hd 12 54 (by kernel_rfl) (by kernel_rfl)
          obtain rfl : x12 = .string c := f12
          obtain ⟨x13, t13, f13⟩ := hJ.dep hd 13 55 (by kernel_rfl) (by kernel_rfl)
          obtain rfl : x13 = .int .i64 n := f13
          have G := hJ.keep
          clear hJ hd hn
          have hs := HSC.out
          go_simp
          exact HK.out _ _ (Keep.refl _) rfl
        · -- 15
          refine LinStep.plain rfl ?_
          intro QQ bb T ww hn hJ hd K HK
          obtain ⟨x14, t14, f14⟩ := hJ.dep hd 14 56 (by kernel_rfl) (by kernel_rfl)
          obtain rfl : x14 = .string pc := f14
          have G := hJ.keep
          clear hJ hd hn
          go_wp2_with (go_at_call 10; ((with_reducible refine (of_is rc pc _ HPC.out HC).mono ?_); rintro e' w1 ⟨rfl, hk⟩))
          exact HK.out _ _ hk rfl
        · -- 16
          refine LinStep.plain rfl ?_
          intro QQ bb T ww hn hJ hd K HK
          obtain ⟨x11, t11, f11⟩ := hJ.dep hd 11 53 (by kernel_rfl) (by kernel_rfl)
          obtain rfl : x11 = .int .u32 rab := f11
          obtain ⟨x15, t15, f15⟩ := hJ.dep hd 15 57 (by kernel_rfl) (by kernel_rfl)
          obtain rfl : x15 = .int .u32 rc := f15
          have G := hJ.keep
          clear hJ hd hn
          have hx := HABC.out
          go_simp
          exact HK.out _ _ (Keep.refl _) rfl
        · -- 17
          refine LinStep.plain rfl ?_
          intro QQ bb T ww hn hJ hd K HK
          obtain ⟨x2, t2, f2⟩ := hJ.dep hd 2 44 (by kernel_rfl) (by kernel_rfl)
          obtain rfl : x2 = .int .u32 r0 := f2
          obtain ⟨x16, t16, f16⟩ := hJ.dep hd 16 58 (by kernel_rfl) (by kernel_rfl)
          obtain rfl : x16 = .int .u32 r0 := f16
          have G := hJ.keep
          clear hJ hd hn
          go_simp
          exact HK.out _ _ (Keep.refl _) rfl
        · -- 18
          refine LinStep.plain rfl ?_
          intro QQ bb T ww hn hJ hd K HK
          obtain ⟨x17, t17, f17⟩ := hJ.dep hd 17 59 (by kernel_rfl) (by kernel_rfl)
          obtain rfl : x17 = .bool true := f17
          have G := hJ.keep
          clear hJ hd hn
          go_simp
          exact HK.out _ _ (Keep.refl _) rfl
end Go.Proofs.Ytmpnmodicigcmaa
