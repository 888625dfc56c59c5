/- FrameCanon answers true for every input. -/
import Derived.Test.YtmgnmkdjphnaoaaFWorks
import Derived.Test.YtmgnmkdjphnaoaaFDraft
import Derived.Test.YtmgnmkdjphnaoaaTail
namespace Go.Proofs.Ytmgnmkdjphnaoaa
open Go Go.RowKit

theorem byte_at_block (z : Int) (w : World) (B : Nat) (h : w.cell? ⟨B, 0, none⟩ = some (.int .u8 z)) : (convert 28 9 (.slice (some ⟨B, 0, none⟩) 1 1)).run Try.prog w = .ok (.string ⟨[toB z].toArray⟩) w := by
  have := run_convert_bytes_arg (P := Try.prog) w 28 5 (by kernel_rfl) (by kernel_rfl) B 0 1 1 [z] rfl (fun i hi => by
    obtain rfl : i = 0 := by omega
    simpa using h) 9 (by kernel_rfl)
  rw [this]
  rfl
/-- What the law asks of one string. -/
theorem canon_one {s : ByteArray} {f : Frm} (h : decP s = some f) : f.ok = true ∧ f.enc = s ∧ ¬ (({ f with data := f.data ++ ⟨#[0]⟩ } : Frm).ok = true ∧ ({ f with data := f.data ++ ⟨#[0]⟩ } : Frm).enc = s) := by
  obtain ⟨h1, h2, h3⟩ := decP_some h
  refine ⟨h1, h2, fun hc => ?_⟩
  have := dec_enc hc.1
  rw [hc.2, h] at this
  have e : f.data.size = (Frm.long { f with data := f.data ++ ⟨#[0]⟩ }).data.size := congrArg (fun g : Frm => g.data.size) (Option.some.inj this)
  have hl := long_size ({ f with data := f.data ++ ⟨#[0]⟩ } : Frm)
  rw [← e] at hl
  dsimp only at hl
  have h0 : (⟨#[0]⟩ : ByteArray).size = 1 := rfl
  rw [ByteArray.size_append, h0] at hl
  split at hl <;> omega
set_option maxRecDepth 1000000 in
set_option maxHeartbeats 8000000 in
theorem lawCanon_any (s : ByteArray) (a b l g k q : Int) (x : ByteArray) (at0 : Nat) (c : Int) (w : World) (hs : s.size ≤ maxLen) (ha : 0 ≤ a ∧ a < 65536) (hb : 0 ≤ b ∧ b < 65536) (hl : 0 ≤ l ∧ l < 65536) (hg : 0 ≤ g ∧ g < 256) (hk : 0 ≤ k ∧ k < 256) (hq : 0 ≤ q ∧ q < 65536) (hx : x.size ≤ maxLen) (hat : at0 < 65536) : Calls Try.prog 6 #[.string s, .agg #[.int .u16 a, .int .u16 b, .int .u16 l, .int .u8 g, .int .u8 k, .int .u16 q, .string x], .int .u16 at0, .int .u8 c] w (Res (.bool true) w) := by
  have hd : ∀ w', Calls Try.prog 9 #[.agg #[.int .u16 a, .int .u16 b, .int .u16 l, .int .u8 g, .int .u8 k, .int .u16 q, .string x]] w' (SomeF w') := fun w' => draft_any a b l g k q x w' ha hb hl hg hk hq hx
  have HD := Lib.hid hd
  clear hd ha hb hl hg hk hq hx
  unfold maxLen at hs
  go_enter Try.func6, Try.ntmps6
  go_upto_region 3 with (go_at_call 17; ((with_reducible refine (works_any _).mono ?_); rintro e' w1 ⟨rfl, k1⟩))
  have hA : DrAt w1 w.heap.size a b l g k q x := keepRow k1 (heap_alloc_new w (.cells #[.int .u16 a, .int .u16 b, .int .u16 l, .int .u8 g, .int .u8 k, .int .u16 q, .string x] 26))
  have K1 := Lib.hid (((Keep.refl w).alloc (.cells #[.int .u16 a, .int .u16 b, .int .u16 l, .int .u8 g, .int .u8 k, .int .u16 q, .string x] 26)).trans k1)
  clear k1
  generalize w.heap.size = A at *
  obtain ⟨a0, a1, a2, a3, a4, a5, a6⟩ := dr_cells hA
  go_upto_region 6 with (first | (go_at_call 9; ((with_reducible refine (HD.out _).mono ?_); rintro e' w2 ⟨⟨D, S, T, P, V, Q, N, Y, X⟩, hok, rfl, k2⟩; obtain ⟨t, ht⟩ : ∃ t, Frm.enc ⟨D, S, T, P, V, Q, N, Y, X⟩ = t := ⟨_, rfl⟩; have HT := Lib.hid ((str_ok hok).trans ht); have HE := Lib.hid (err_ok hok))) | (go_at_call 11; ((with_reducible refine (encode_is D S P V N Y T Q X t 0 _ HT HE).mono ?_); rintro e' w3 ⟨rfl, k3⟩)))
  have K3 := Lib.hid ((K1.out.trans k2).trans k3)
  have hsz : 64 ≤ t.size ∧ t.size ≤ 2000 := by
    have h1 := ok_data _ hok
    have h2 := hd_le ⟨D, S, T, P, V, Q, N, Y, X⟩
    have h3 := enc_sz ⟨D, S, T, P, V, Q, N, Y, X⟩
    rw [ht] at h3
    dsimp only at h1 h3
    omega
  clear K1 k2 k3 HT HE ht hok a0 a1 a2 a3 a4 a5 a6 hA HD
  obtain ⟨n, hn⟩ : ∃ n, t.size = n := ⟨_, rfl⟩
  rw [hn] at hsz
  obtain ⟨m, hm⟩ : ∃ m, n - 4 = m := ⟨_, rfl⟩
  have hm4 : (n : Int) - 4 = (m : Int) := by omega
  have hw4 : wrap64 ((n : Int) - 4) = (m : Int) := by unfold wrap64; omega
  have hwm : wrap64 (m : Int) = (m : Int) := by unfold wrap64; omega
  obtain ⟨kk, hkk⟩ : ∃ kk, at0 % m = kk := ⟨_, rfl⟩
  have hkn : kk < m := by rw [← hkk]; exact Nat.mod_lt _ (by omega)
  have hki : (at0 : Int).tmod (m : Int) = (kk : Int) := by rw [Int.tmod_eq_emod_of_nonneg (by omega), ← hkk]; simp
  have hki2 : (at0 : Int) % (m : Int) = (kk : Int) := by rw [← hkk]; simp
  have hwa : wrap64 (at0 : Int) = at0 := by unfold wrap64; omega
  have hne : ¬ (m : Int) = 0 := by omega
  have hne2 : ¬ m = 0 := by omega
  clear hkk
  go_upto_region 7 with fail
  clear hki hki2 hwa hne hne2 hw4 hwm
  obtain ⟨sn, hsn⟩ : ∃ j : Nat, min s.size 200 = j := ⟨_, rfl⟩
  have hmn : min (s.size : Int) 200 = (sn : Int) := by omega
  have hsb : (sn : Int) ≤ (s.size : Int) := by omega
  obtain ⟨u, hu⟩ : ∃ u, s.extract 0 sn = u := ⟨_, rfl⟩
  have hus : u.size ≤ 200 := by rw [← hu, ByteArray.size_extract]; omega
  obtain ⟨su, hsu⟩ : ∃ v, sealG u 0#32 = v := ⟨_, rfl⟩
  have hsus : su.size ≤ 204 := by rw [← hsu, sealG_size]; omega
  obtain ⟨k1, hk1⟩ : ∃ k1 : Nat, kk + 1 = k1 := ⟨_, rfl⟩
  obtain ⟨p1, hp1⟩ : ∃ v, t.extract 0 kk = v := ⟨_, rfl⟩
  have hp1s : p1.size = kk := by rw [← hp1, ByteArray.size_extract]; omega
  obtain ⟨c1, hc1⟩ : ∃ v : ByteArray, ⟨[toB c].toArray⟩ = v := ⟨_, rfl⟩
  have hc1s : c1.size = 1 := by rw [← hc1]; rfl
  obtain ⟨p2, hp2⟩ : ∃ v, p1 ++ c1 = v := ⟨_, rfl⟩
  have hp2s : p2.size = kk + 1 := by rw [← hp2, ByteArray.size_append]; omega
  obtain ⟨p3, hp3⟩ : ∃ v, t.extract k1 m = v := ⟨_, rfl⟩
  have hp3s : p3.size ≤ 2000 := by rw [← hp3, ByteArray.size_extract]; omega
  obtain ⟨p4, hp4⟩ : ∃ v, p2 ++ p3 = v := ⟨_, rfl⟩
  have hp4s : p4.size ≤ 4000 := by rw [← hp4, ByteArray.size_append]; omega
  obtain ⟨sp, hsp⟩ : ∃ v, sealG p4 0#32 = v := ⟨_, rfl⟩
  have hsps : sp.size ≤ 4004 := by rw [← hsp, sealG_size]; omega
  have hts : t.size ≤ 4004 := by omega
  have hbnd : (kk : Int) ≤ (n : Int) ∧ (k1 : Int) ≤ (m : Int) ∧ (m : Int) ≤ (n : Int) := by omega
  have HK1 := Lib.hid hk1
  have HB1 := Lib.hid hsb
  have HB2 := Lib.hid hbnd
  have HMN := Lib.hid hmn
  have HU := Lib.hid hu
  have HSU := Lib.hid hsu
  have HP1 := Lib.hid hp1
  have HC1 := Lib.hid hc1
  have HP2 := Lib.hid hp2
  have HP3 := Lib.hid hp3
  have HP4 := Lib.hid hp4
  have HSP := Lib.hid hsp
  have HUS : Hid (u.size ≤ 100000) := Lib.hid (by omega)
  have HPS : Hid (p4.size ≤ 100000) := Lib.hid (by omega)
  have HN := Lib.hid hn
  have HM4 := Lib.hid hm4
  have HZ1 := Lib.hid hp1s
  have HZ2 := Lib.hid hp2s
  have HZC := Lib.hid hc1s
  have HZ3 : Hid (¬ 9223372036854775807 < p1.size + c1.size ∧ ¬ 9223372036854775807 < p2.size + p3.size) := Lib.hid (by omega)
  have HSZ : Hid (u.size ≤ 4004 ∧ su.size ≤ 4004 ∧ t.size ≤ 4004 ∧ sp.size ≤ 4004) := Lib.hid (by omega)
  clear hs hsz hm hm4 hkn hsn hmn hsb hu hus hsu hsus hp1 hp1s hc1 hc1s hp2 hp2s hp3 hp3s hp4 hp4s hsp hsps hts hbnd hn hat hk1
  go_cut [65, 66] (fun v i wx => v = .agg #[.string u, .string su, .string t, .string sp] ∧ i = .int .i64 0 ∧ Hid (Keep w wx))
  case first =>
    refine region_lin (W0 := w3) (listF [fun v ww => v = .string s, fun v ww => v = .string s, fun v ww => v = .int .i64 (s.size : Int), fun v ww => v = .int .i64 (sn : Int), fun v ww => v = .string u, fun v ww => v = .string s, fun v ww => v = .string s, fun v ww => v = .int .i64 (s.size : Int), fun v ww => v = .int .i64 (sn : Int), fun v ww => v = .string u, fun v ww => v = .string su, fun v ww => v = .string t, fun v ww => v = .string t, fun v ww => v = .int .i64 (kk : Int), fun v ww => v = .string p1, fun v ww => v = .int .u8 c, fun v ww => ∃ B, v = .slice (some ⟨B, 0, none⟩) 1 1 ∧ ww.cell? ⟨B, 0, none⟩ = some (.int .u8 c), fun v ww => v = .string c1, fun v ww => v = .string p2, fun v ww => v = .string t, fun v ww => v = .int .i64 (kk : Int), fun v ww => v = .int .i64 (k1 : Int), fun v ww => v = .string t, fun v ww => v = .int .i64 (n : Int), fun v ww => v = .int .i64 (m : Int), fun v ww => v = .string p3, fun v ww => v = .string p4, fun v ww => v = .string sp, fun v ww => v = .agg #[.string u, .string su, .string t, .string sp], fun v ww => v = .int .i64 0]) (listF_stable _ ⟨fun _ _ _ _ h => h, fun _ _ _ _ h => h, fun _ _ _ _ h => h, fun _ _ _ _ h => h, fun _ _ _ _ h => h, fun _ _ _ _ h => h, fun _ _ _ _ h => h, fun _ _ _ _ h => h, fun _ _ _ _ h => h, fun _ _ _ _ h => h, fun _ _ _ _ h => h, fun _ _ _ _ h => h, fun _ _ _ _ h => h, fun _ _ _ _ h => h, fun _ _ _ _ h => h, fun _ _ _ _ h => h, fun _ _ _ hk ⟨B, h1, h2⟩ => ⟨B, h1, hk.some h2⟩, fun _ _ _ _ h => h, fun _ _ _ _ h => h, fun _ _ _ _ h => h, fun _ _ _ _ h => h, fun _ _ _ _ h => h, fun _ _ _ _ h => h, fun _ _ _ _ h => h, fun _ _ _ _ h => h, fun _ _ _ _ h => h, fun _ _ _ _ h => h, fun _ _ _ _ h => h, fun _ _ _ _ h => h, fun _ _ _ _ h => h, trivial⟩) (by kernel_rfl) (by kernel_rfl) (by kernel_rfl) (by kernel_rfl) (Keep.refl _) ?done7 ?steps7
    case done7 =>
      intro T7 wz7 hJ
      obtain ⟨x0, t0, f0⟩ := hJ.fact 0 37 (by decide) (by kernel_rfl)
      obtain rfl : x0 = .string s := f0
      obtain ⟨x1, t1, f1⟩ := hJ.fact 1 38 (by decide) (by kernel_rfl)
      obtain rfl : x1 = .string s := f1
      obtain ⟨x2, t2, f2⟩ := hJ.fact 2 39 (by decide) (by kernel_rfl)
      obtain rfl : x2 = .int .i64 (s.size : Int) := f2
      obtain ⟨x3, t3, f3⟩ := hJ.fact 3 40 (by decide) (by kernel_rfl)
      obtain rfl : x3 = .int .i64 (sn : Int) := f3
      obtain ⟨x4, t4, f4⟩ := hJ.fact 4 41 (by decide) (by kernel_rfl)
      obtain rfl : x4 = .string u := f4
      obtain ⟨x5, t5, f5⟩ := hJ.fact 5 42 (by decide) (by kernel_rfl)
      obtain rfl : x5 = .string s := f5
      obtain ⟨x6, t6, f6⟩ := hJ.fact 6 43 (by decide) (by kernel_rfl)
      obtain rfl : x6 = .string s := f6
      obtain ⟨x7, t7, f7⟩ := hJ.fact 7 44 (by decide) (by kernel_rfl)
      obtain rfl : x7 = .int .i64 (s.size : Int) := f7
      obtain ⟨x8, t8, f8⟩ := hJ.fact 8 45 (by decide) (by kernel_rfl)
      obtain rfl : x8 = .int .i64 (sn : Int) := f8
      obtain ⟨x9, t9, f9⟩ := hJ.fact 9 46 (by decide) (by kernel_rfl)
      obtain rfl : x9 = .string u := f9
      obtain ⟨x10, t10, f10⟩ := hJ.fact 10 47 (by decide) (by kernel_rfl)
      obtain rfl : x10 = .string su := f10
      obtain ⟨x11, t11, f11⟩ := hJ.fact 11 48 (by decide) (by kernel_rfl)
      obtain rfl : x11 = .string t := f11
      obtain ⟨x12, t12, f12⟩ := hJ.fact 12 49 (by decide) (by kernel_rfl)
      obtain rfl : x12 = .string t := f12
      obtain ⟨x13, t13, f13⟩ := hJ.fact 13 50 (by decide) (by kernel_rfl)
      obtain rfl : x13 = .int .i64 (kk : Int) := f13
      obtain ⟨x14, t14, f14⟩ := hJ.fact 14 51 (by decide) (by kernel_rfl)
      obtain rfl : x14 = .string p1 := f14
      obtain ⟨x15, t15, f15⟩ := hJ.fact 15 52 (by decide) (by kernel_rfl)
      obtain rfl : x15 = .int .u8 c := f15
      obtain ⟨x16, t16, f16⟩ := hJ.fact 16 53 (by decide) (by kernel_rfl)
      replace f16 : ∃ B, x16 = .slice (some ⟨B, 0, none⟩) 1 1 ∧ wz7.cell? ⟨B, 0, none⟩ = some (.int .u8 c) := f16
      obtain ⟨x17, t17, f17⟩ := hJ.fact 17 54 (by decide) (by kernel_rfl)
      obtain rfl : x17 = .string c1 := f17
      obtain ⟨x18, t18, f18⟩ := hJ.fact 18 55 (by decide) (by kernel_rfl)
      obtain rfl : x18 = .string p2 := f18
      obtain ⟨x19, t19, f19⟩ := hJ.fact 19 56 (by decide) (by kernel_rfl)
      obtain rfl : x19 = .string t := f19
      obtain ⟨x20, t20, f20⟩ := hJ.fact 20 57 (by decide) (by kernel_rfl)
      obtain rfl : x20 = .int .i64 (kk : Int) := f20
      obtain ⟨x21, t21, f21⟩ := hJ.fact 21 58 (by decide) (by kernel_rfl)
      obtain rfl : x21 = .int .i64 (k1 : Int) := f21
      obtain ⟨x22, t22, f22⟩ := hJ.fact 22 59 (by decide) (by kernel_rfl)
      obtain rfl : x22 = .string t := f22
      obtain ⟨x23, t23, f23⟩ := hJ.fact 23 60 (by decide) (by kernel_rfl)
      obtain rfl : x23 = .int .i64 (n : Int) := f23
      obtain ⟨x24, t24, f24⟩ := hJ.fact 24 61 (by decide) (by kernel_rfl)
      obtain rfl : x24 = .int .i64 (m : Int) := f24
      obtain ⟨x25, t25, f25⟩ := hJ.fact 25 62 (by decide) (by kernel_rfl)
      obtain rfl : x25 = .string p3 := f25
      obtain ⟨x26, t26, f26⟩ := hJ.fact 26 63 (by decide) (by kernel_rfl)
      obtain rfl : x26 = .string p4 := f26
      obtain ⟨x27, t27, f27⟩ := hJ.fact 27 64 (by decide) (by kernel_rfl)
      obtain rfl : x27 = .string sp := f27
      obtain ⟨x28, t28, f28⟩ := hJ.fact 28 65 (by decide) (by kernel_rfl)
      obtain rfl : x28 = .agg #[.string u, .string su, .string t, .string sp] := f28
      obtain ⟨x29, t29, f29⟩ := hJ.fact 29 66 (by decide) (by kernel_rfl)
      obtain rfl : x29 = .int .i64 0 := f29
      have hfr := hJ.frame [(37, .string s), (38, .string s), (39, .int .i64 (s.size : Int)), (40, .int .i64 (sn : Int)), (41, .string u), (42, .string s), (43, .string s), (44, .int .i64 (s.size : Int)), (45, .int .i64 (sn : Int)), (46, .string u), (47, .string su), (48, .string t), (49, .string t), (50, .int .i64 (kk : Int)), (51, .string p1), (52, .int .u8 c), (53, x16), (54, .string c1), (55, .string p2), (56, .string t), (57, .int .i64 (kk : Int)), (58, .int .i64 (k1 : Int)), (59, .string t), (60, .int .i64 (n : Int)), (61, .int .i64 (m : Int)), (62, .string p3), (63, .string p4), (64, .string sp), (65, .agg #[.string u, .string su, .string t, .string sp]), (66, .int .i64 0)] (by simp [t0, t1, t2, t3, t4, t5, t6, t7, t8, t9, t10, t11, t12, t13, t14, t15, t16, t17, t18, t19, t20, t21, t22, t23, t24, t25, t26, t27, t28, t29]) (by kernel_rfl)
      have G := hJ.keep
      clear hJ t0 t1 t2 t3 t4 t5 t6 t7 t8 t9 t10 t11 t12 t13 t14 t15 t16 t17 t18 t19 t20 t21 t22 t23 t24 t25 t26 t27 t28 t29
      rw [hfr]
      clear hfr T7
      simp only [List.foldl_cons, List.foldl_nil, List.setIfInBounds_toArray, List.set_cons_zero, List.set_cons_succ]
      go_wp2
      go_meet
      exact ⟨rfl, rfl, Lib.hid (K3.out.trans G)⟩
    case steps7 =>
      refine LinSteps.cons (k := 0) ?_ (LinSteps.cons (k := 1) ?_ (LinSteps.cons (k := 2) ?_ (LinSteps.cons (k := 3) ?_ (LinSteps.cons (k := 4) ?_ (LinSteps.cons (k := 5) ?_ (LinSteps.cons (k := 6) ?_ (LinSteps.cons (k := 7) ?_ (LinSteps.cons (k := 8) ?_ (LinSteps.cons (k := 9) ?_ (LinSteps.cons (k := 10) ?_ (LinSteps.cons (k := 11) ?_ (LinSteps.cons (k := 12) ?_ (LinSteps.cons (k := 13) ?_ (LinSteps.cons (k := 14) ?_ (LinSteps.cons (k := 15) ?_ (LinSteps.cons (k := 16) ?_ (LinSteps.cons (k := 17) ?_ (LinSteps.cons (k := 18) ?_ (LinSteps.cons (k := 19) ?_ (LinSteps.cons (k := 20) ?_ (LinSteps.cons (k := 21) ?_ (LinSteps.cons (k := 22) ?_ (LinSteps.cons (k := 23) ?_ (LinSteps.cons (k := 24) ?_ (LinSteps.cons (k := 25) ?_ (LinSteps.cons (k := 26) ?_ (LinSteps.cons (k := 27) ?_ (LinSteps.cons (k := 28) ?_ (LinSteps.cons (k := 29) ?_ (LinSteps.nil))))))))))))))))))))))))))))))
      · -- 0
        refine LinStep.plain rfl ?_
        intro QQ bb T ww hn hJ hd K HK
        have s0 := (hJ.oldSlot 0 (by kernel_rfl))
        simp only [List.getElem?_toArray, List.getElem?_cons_zero] at s0
        have G := hJ.keep
        clear hJ hd hn
        go_simp
        exact HK.out _ _ (Keep.refl _) rfl
      · -- 1
        refine LinStep.plain rfl ?_
        intro QQ bb T ww hn hJ hd K HK
        have s0 := (hJ.oldSlot 0 (by kernel_rfl))
        simp only [List.getElem?_toArray, List.getElem?_cons_zero] at s0
        have G := hJ.keep
        clear hJ hd hn
        go_simp
        exact HK.out _ _ (Keep.refl _) rfl
      · -- 2
        refine LinStep.plain rfl ?_
        intro QQ bb T ww hn hJ hd K HK
        obtain ⟨x1, t1, f1⟩ := hJ.dep hd 1 38 (by kernel_rfl) (by kernel_rfl)
        obtain rfl : x1 = .string s := f1
        have G := hJ.keep
        clear hJ hd hn
        go_simp
        exact HK.out _ _ (Keep.refl _) rfl
      · -- 3
        refine LinStep.plain rfl ?_
        intro QQ bb T ww hn hJ hd K HK
        obtain ⟨x2, t2, f2⟩ := hJ.dep hd 2 39 (by kernel_rfl) (by kernel_rfl)
        obtain rfl : x2 = .int .i64 (s.size : Int) := f2
        have G := hJ.keep
        clear hJ hd hn
        have h1 := HMN.out
        go_simp
        exact HK.out _ _ (Keep.refl _) rfl
      · -- 4
        refine LinStep.plain rfl ?_
        intro QQ bb T ww hn hJ hd K HK
        obtain ⟨x0, t0, f0⟩ := hJ.dep hd 0 37 (by kernel_rfl) (by kernel_rfl)
        obtain rfl : x0 = .string s := f0
        obtain ⟨x3, t3, f3⟩ := hJ.dep hd 3 40 (by kernel_rfl) (by kernel_rfl)
        obtain rfl : x3 = .int .i64 (sn : Int) := f3
        have G := hJ.keep
        clear hJ hd hn
        have h1 := HU.out
        have h2 := HB1.out
        go_simp
        exact HK.out _ _ (Keep.refl _) rfl
      · -- 5
        refine LinStep.plain rfl ?_
        intro QQ bb T ww hn hJ hd K HK
        have s0 := (hJ.oldSlot 0 (by kernel_rfl))
        simp only [List.getElem?_toArray, List.getElem?_cons_zero] at s0
        have G := hJ.keep
        clear hJ hd hn
        go_simp
        exact HK.out _ _ (Keep.refl _) rfl
      · -- 6
        refine LinStep.plain rfl ?_
        intro QQ bb T ww hn hJ hd K HK
        have s0 := (hJ.oldSlot 0 (by kernel_rfl))
        simp only [List.getElem?_toArray, List.getElem?_cons_zero] at s0
        have G := hJ.keep
        clear hJ hd hn
        go_simp
        exact HK.out _ _ (Keep.refl _) rfl
      · -- 7
        refine LinStep.plain rfl ?_
        intro QQ bb T ww hn hJ hd K HK
        obtain ⟨x6, t6, f6⟩ := hJ.dep hd 6 43 (by kernel_rfl) (by kernel_rfl)
        obtain rfl : x6 = .string s := f6
        have G := hJ.keep
        clear hJ hd hn
        go_simp
        exact HK.out _ _ (Keep.refl _) rfl
      · -- 8
        refine LinStep.plain rfl ?_
        intro QQ bb T ww hn hJ hd K HK
        obtain ⟨x7, t7, f7⟩ := hJ.dep hd 7 44 (by kernel_rfl) (by kernel_rfl)
        obtain rfl : x7 = .int .i64 (s.size : Int) := f7
        have G := hJ.keep
        clear hJ hd hn
        have h1 := HMN.out
        go_simp
        exact HK.out _ _ (Keep.refl _) rfl
      · -- 9
        refine LinStep.plain rfl ?_
        intro QQ bb T ww hn hJ hd K HK
        obtain ⟨x5, t5, f5⟩ := hJ.dep hd 5 42 (by kernel_rfl) (by kernel_rfl)
        obtain rfl : x5 = .string s := f5
        obtain ⟨x8, t8, f8⟩ := hJ.dep hd 8 45 (by kernel_rfl) (by kernel_rfl)
        obtain rfl : x8 = .int .i64 (sn : Int) := f8
        have G := hJ.keep
        clear hJ hd hn
        have h1 := HU.out
        have h2 := HB1.out
        go_simp
        exact HK.out _ _ (Keep.refl _) rfl
      · -- 10
        refine LinStep.plain rfl ?_
        intro QQ bb T ww hn hJ hd K HK
        obtain ⟨x9, t9, f9⟩ := hJ.dep hd 9 46 (by kernel_rfl) (by kernel_rfl)
        obtain rfl : x9 = .string u := f9
        have G := hJ.keep
        clear hJ hd hn
        go_wp2_with (go_at_call 24; ((with_reducible refine (seal_is u su _ HUS.out HSU).mono ?_); rintro e' w9 ⟨rfl, hk⟩))
        exact HK.out _ _ hk rfl
      · -- 11
        refine LinStep.plain rfl ?_
        intro QQ bb T ww hn hJ hd K HK
        have s9 := (hJ.oldSlot 9 (by kernel_rfl))
        simp only [List.getElem?_toArray, List.getElem?_cons_zero, List.getElem?_cons_succ] at s9
        have G := hJ.keep
        clear hJ hd hn
        go_simp
        exact HK.out _ _ (Keep.refl _) rfl
      · -- 12
        refine LinStep.plain rfl ?_
        intro QQ bb T ww hn hJ hd K HK
        have s9 := (hJ.oldSlot 9 (by kernel_rfl))
        simp only [List.getElem?_toArray, List.getElem?_cons_zero, List.getElem?_cons_succ] at s9
        have G := hJ.keep
        clear hJ hd hn
        go_simp
        exact HK.out _ _ (Keep.refl _) rfl
      · -- 13
        refine LinStep.plain rfl ?_
        intro QQ bb T ww hn hJ hd K HK
        have s11 := (hJ.oldSlot 11 (by kernel_rfl))
        simp only [List.getElem?_toArray, List.getElem?_cons_zero, List.getElem?_cons_succ] at s11
        have G := hJ.keep
        clear hJ hd hn
        go_simp
        exact HK.out _ _ (Keep.refl _) rfl
      · -- 14
        refine LinStep.plain rfl ?_
        intro QQ bb T ww hn hJ hd K HK
        obtain ⟨x12, t12, f12⟩ := hJ.dep hd 12 49 (by kernel_rfl) (by kernel_rfl)
        obtain rfl : x12 = .string t := f12
        obtain ⟨x13, t13, f13⟩ := hJ.dep hd 13 50 (by kernel_rfl) (by kernel_rfl)
        obtain rfl : x13 = .int .i64 (kk : Int) := f13
        have G := hJ.keep
        clear hJ hd hn
        have h1 := HP1.out
        have h2 := HB2.out.1
        have h3 := HN.out
        go_simp
        exact HK.out _ _ (Keep.refl _) rfl
      · -- 15
        refine LinStep.plain rfl ?_
        intro QQ bb T ww hn hJ hd K HK
        have s3 := (hJ.oldSlot 3 (by kernel_rfl))
        simp only [List.getElem?_toArray, List.getElem?_cons_zero, List.getElem?_cons_succ] at s3
        have G := hJ.keep
        clear hJ hd hn
        go_simp
        exact HK.out _ _ (Keep.refl _) rfl
      · -- 16
        refine LinStep.plain rfl ?_
        intro QQ bb T ww hn hJ hd K HK
        obtain ⟨x15, t15, f15⟩ := hJ.dep hd 15 52 (by kernel_rfl) (by kernel_rfl)
        obtain rfl : x15 = .int .u8 c := f15
        have G := hJ.keep
        clear hJ hd hn
        go_simp
        exact HK.out _ _ (Keep.alloc (Keep.refl _) _) (⟨_, rfl, by simp [go_sem]⟩)
      · -- 17
        refine LinStep.plain rfl ?_
        intro QQ bb T ww hn hJ hd K HK
        obtain ⟨x16, t16, f16⟩ := hJ.dep hd 16 53 (by kernel_rfl) (by kernel_rfl)
        replace f16 : ∃ B, x16 = .slice (some ⟨B, 0, none⟩) 1 1 ∧ ww.cell? ⟨B, 0, none⟩ = some (.int .u8 c) := f16
        obtain ⟨B, rfl, hB⟩ := f16
        have G := hJ.keep
        clear hJ hd hn
        have hcv := byte_at_block c ww B hB
        rw [HC1.out] at hcv
        go_simp
        exact HK.out _ _ (Keep.refl _) rfl
      · -- 18
        refine LinStep.plain rfl ?_
        intro QQ bb T ww hn hJ hd K HK
        obtain ⟨x14, t14, f14⟩ := hJ.dep hd 14 51 (by kernel_rfl) (by kernel_rfl)
        obtain rfl : x14 = .string p1 := f14
        obtain ⟨x17, t17, f17⟩ := hJ.dep hd 17 54 (by kernel_rfl) (by kernel_rfl)
        obtain rfl : x17 = .string c1 := f17
        have G := hJ.keep
        clear hJ hd hn
        have h1 := HP2.out
        have h2 := HZ3.out.1
        go_simp
        exact HK.out _ _ (Keep.refl _) rfl
      · -- 19
        refine LinStep.plain rfl ?_
        intro QQ bb T ww hn hJ hd K HK
        have s9 := (hJ.oldSlot 9 (by kernel_rfl))
        simp only [List.getElem?_toArray, List.getElem?_cons_zero, List.getElem?_cons_succ] at s9
        have G := hJ.keep
        clear hJ hd hn
        go_simp
        exact HK.out _ _ (Keep.refl _) rfl
      · -- 20
        refine LinStep.plain rfl ?_
        intro QQ bb T ww hn hJ hd K HK
        have s11 := (hJ.oldSlot 11 (by kernel_rfl))
        simp only [List.getElem?_toArray, List.getElem?_cons_zero, List.getElem?_cons_succ] at s11
        have G := hJ.keep
        clear hJ hd hn
        go_simp
        exact HK.out _ _ (Keep.refl _) rfl
      · -- 21
        refine LinStep.plain rfl ?_
        intro QQ bb T ww hn hJ hd K HK
        obtain ⟨x20, t20, f20⟩ := hJ.dep hd 20 57 (by kernel_rfl) (by kernel_rfl)
        obtain rfl : x20 = .int .i64 (kk : Int) := f20
        have G := hJ.keep
        clear hJ hd hn
        have h1 : IntKind.i64.wrap ((kk : Int) + 1) = (k1 : Int) := by rw [IntWalk.i64_in _ (by have := HB2.out; have := HN.out; have := HSZ.out; omega)]; have := HK1.out; omega
        go_simp
        exact HK.out _ _ (Keep.refl _) rfl
      · -- 22
        refine LinStep.plain rfl ?_
        intro QQ bb T ww hn hJ hd K HK
        have s9 := (hJ.oldSlot 9 (by kernel_rfl))
        simp only [List.getElem?_toArray, List.getElem?_cons_zero, List.getElem?_cons_succ] at s9
        have G := hJ.keep
        clear hJ hd hn
        go_simp
        exact HK.out _ _ (Keep.refl _) rfl
      · -- 23
        refine LinStep.plain rfl ?_
        intro QQ bb T ww hn hJ hd K HK
        obtain ⟨x22, t22, f22⟩ := hJ.dep hd 22 59 (by kernel_rfl) (by kernel_rfl)
        obtain rfl : x22 = .string t := f22
        have G := hJ.keep
        clear hJ hd hn
        have h1 := HN.out
        go_simp
        exact HK.out _ _ (Keep.refl _) rfl
      · -- 24
        refine LinStep.plain rfl ?_
        intro QQ bb T ww hn hJ hd K HK
        obtain ⟨x23, t23, f23⟩ := hJ.dep hd 23 60 (by kernel_rfl) (by kernel_rfl)
        obtain rfl : x23 = .int .i64 (n : Int) := f23
        have G := hJ.keep
        clear hJ hd hn
        have h1 : IntKind.i64.wrap ((n : Int) - 4) = (m : Int) := by rw [IntWalk.i64_in _ (by have := HM4.out; have := HN.out; have := HSZ.out; omega)]; exact HM4.out
        go_simp
        exact HK.out _ _ (Keep.refl _) rfl
      · -- 25
        refine LinStep.plain rfl ?_
        intro QQ bb T ww hn hJ hd K HK
        obtain ⟨x19, t19, f19⟩ := hJ.dep hd 19 56 (by kernel_rfl) (by kernel_rfl)
        obtain rfl : x19 = .string t := f19
        obtain ⟨x21, t21, f21⟩ := hJ.dep hd 21 58 (by kernel_rfl) (by kernel_rfl)
        obtain rfl : x21 = .int .i64 (k1 : Int) := f21
        obtain ⟨x24, t24, f24⟩ := hJ.dep hd 24 61 (by kernel_rfl) (by kernel_rfl)
        obtain rfl : x24 = .int .i64 (m : Int) := f24
        have G := hJ.keep
        clear hJ hd hn
        have h1 := HP3.out
        have h2 := HB2.out.2.1
        have h3 := HB2.out.2.2
        have h4 := HN.out
        go_simp
        exact HK.out _ _ (Keep.refl _) rfl
      · -- 26
        refine LinStep.plain rfl ?_
        intro QQ bb T ww hn hJ hd K HK
        obtain ⟨x18, t18, f18⟩ := hJ.dep hd 18 55 (by kernel_rfl) (by kernel_rfl)
        obtain rfl : x18 = .string p2 := f18
        obtain ⟨x25, t25, f25⟩ := hJ.dep hd 25 62 (by kernel_rfl) (by kernel_rfl)
        obtain rfl : x25 = .string p3 := f25
        have G := hJ.keep
        clear hJ hd hn
        have h1 := HP4.out
        have h2 := HZ3.out.2
        go_simp
        exact HK.out _ _ (Keep.refl _) rfl
      · -- 27
        refine LinStep.plain rfl ?_
        intro QQ bb T ww hn hJ hd K HK
        obtain ⟨x26, t26, f26⟩ := hJ.dep hd 26 63 (by kernel_rfl) (by kernel_rfl)
        obtain rfl : x26 = .string p4 := f26
        have G := hJ.keep
        clear hJ hd hn
        go_wp2_with (go_at_call 24; ((with_reducible refine (seal_is p4 sp _ HPS.out HSP).mono ?_); rintro e' w9 ⟨rfl, hk⟩))
        exact HK.out _ _ hk rfl
      · -- 28
        refine LinStep.plain rfl ?_
        intro QQ bb T ww hn hJ hd K HK
        obtain ⟨x4, t4, f4⟩ := hJ.dep hd 4 41 (by kernel_rfl) (by kernel_rfl)
        obtain rfl : x4 = .string u := f4
        obtain ⟨x10, t10, f10⟩ := hJ.dep hd 10 47 (by kernel_rfl) (by kernel_rfl)
        obtain rfl : x10 = .string su := f10
        obtain ⟨x11, t11, f11⟩ := hJ.dep hd 11 48 (by kernel_rfl) (by kernel_rfl)
        obtain rfl : x11 = .string t := f11
        obtain ⟨x27, t27, f27⟩ := hJ.dep hd 27 64 (by kernel_rfl) (by kernel_rfl)
        obtain rfl : x27 = .string sp := f27
        have G := hJ.keep
        clear hJ hd hn
        go_simp
        exact HK.out _ _ (Keep.refl _) rfl
      · -- 29
        refine LinStep.plain rfl ?_
        intro QQ bb T ww hn hJ hd K HK
        have G := hJ.keep
        clear hJ hd hn
        go_simp
        exact HK.out _ _ (Keep.refl _) rfl
  case rest =>
    obtain ⟨rfl, rfl, HK⟩ := hcut
    have HX : Hid (∀ j : Nat, j < 4 → ∃ y : ByteArray, y.size ≤ 4004 ∧ ∀ wy : World, (Instr.index 49 (.agg #[.string u, .string su, .string t, .string sp]) (.int .i64 j)).run Try.prog wy = .ok (.string y) wy) := Lib.hid (by
      intro j hj
      obtain ⟨z1, z2, z3, z4⟩ := HSZ.out
      have : j = 0 ∨ j = 1 ∨ j = 2 ∨ j = 3 := by omega
      rcases this with rfl | rfl | rfl | rfl
      · exact ⟨u, z1, fun wy => by kernel_rfl⟩
      · exact ⟨su, z2, fun wy => by kernel_rfl⟩
      · exact ⟨t, z3, fun wy => by kernel_rfl⟩
      · exact ⟨sp, z4, fun wy => by kernel_rfl⟩)
    clear HMN HU HSU HP1 HC1 HP2 HP3 HP4 HSP HUS HPS HN HM4 HZ1 HZ2 HZC HZ3 HB1 HB2 K3
    go_wp2_with fail
    go_loopw [13, 14, 15, 16, 17, 18, 19, 20, 66] (fun _ _ _ _ _ _ _ _ i wr => ∃ j : Nat, j ≤ 4 ∧ i = .int .i64 j ∧ Hid (Keep w wr)) (fun _ _ _ _ _ _ _ _ i _ => 4 - (intOf i).toNat)
    case atStart => exact ⟨0, by omega, rfl, HK⟩
    case round =>
      obtain ⟨j, hj, rfl, HKr⟩ := hrel
      by_cases hlt : j < 4
      · obtain ⟨y, hy, hidx⟩ := HX.out j hlt
        have HYM : Hid (y.size ≤ maxLen) := Lib.hid (by unfold maxLen; omega)
        cases hdp : decP y with
        | none =>
          have HDP := Lib.hid hdp
          have HBD : Hid (badB y = true) := Lib.hid (by unfold badB; rw [hdp]; rfl)
          have hq : ∀ w', Calls Try.prog 19 #[.string y] w' (DecR ⟨0, 0, false, 0, 0, false, 0, 0, ⟨#[]⟩⟩ 5 w') := fun w' => decode_is y none w' HYM.out HDP
          have HQ := Lib.hid hq
          clear hq hdp
          go_wp2_with (first | (go_at_call 19; ((with_reducible refine (HQ.out _).mono ?_); rintro e' w4 ⟨rfl, k4⟩)) | (go_at_call 25; ((with_reducible refine (malformed_is y true _ HYM.out HBD).mono ?_); rintro e' w5 ⟨rfl, k5⟩)))
          go_roundw
          case rel => exact ⟨j + 1, by omega, by go_num, Lib.hid (((HKr.out.trans k4).alloc _).trans k5)⟩
          case measure => simp [intOf]; omega
        | some f =>
          obtain ⟨fok, fen, fno⟩ := canon_one hdp
          have hq : ∀ w', Calls Try.prog 19 #[.string y] w' (DecR f 0 w') := fun w' => decode_is y (some f) w' HYM.out (Lib.hid hdp)
          obtain ⟨D', S', T', P', V', Q', N', Y', X'⟩ := f
          have HQ := Lib.hid hq
          have HT := Lib.hid ((str_ok fok).trans fen)
          have HE := Lib.hid (err_ok fok)
          have hxs := ok_data _ fok
          dsimp only at hxs fno
          obtain ⟨XZ, hXZ⟩ : ∃ v, X' ++ (⟨#[0]⟩ : ByteArray) = v := ⟨_, rfl⟩
          rw [hXZ] at fno
          have h01 : (⟨#[0]⟩ : ByteArray).size = 1 := rfl
          obtain ⟨lt, hlt2⟩ : ∃ v, Frm.str ⟨D', S', T', P', V', Q', N', Y', XZ⟩ = v := ⟨_, rfl⟩
          have HLT := Lib.hid hlt2
          clear hq hdp fen
          cases hlo : Frm.ok ⟨D', S', T', P', V', Q', N', Y', XZ⟩ with
          | true =>
            have hne : (lt.toList == y.toList) = false := by
              rw [beq_bytes]
              refine decide_eq_false (fun c => fno ⟨hlo, ?_⟩)
              rw [str_ok hlo] at hlt2
              rw [hlt2]
              exact bytes_ext c
            have HLE := Lib.hid (err_ok hlo)
            clear fno hlt2 hlo fok
            go_upto_region 14 with (go_at_call 19; ((with_reducible refine (HQ.out _).mono ?_); rintro e' w4 ⟨rfl, k4⟩))
            have hF : FrAt (w4.alloc (.cells #[.int .i64 D', .int .i64 S', .bool T', .int .i64 P', .int .i64 V', .bool Q', .int .i64 N', .int .i64 Y', .string X'] 23)) w4.heap.size D' S' T' P' V' Q' N' Y' X' := heap_alloc_new w4 _
            have K4 := Lib.hid ((HKr.out.trans k4).alloc (.cells #[.int .i64 D', .int .i64 S', .bool T', .int .i64 P', .int .i64 V', .bool Q', .int .i64 N', .int .i64 Y', .string X'] 23))
            clear k4
            generalize w4.alloc (.cells #[.int .i64 D', .int .i64 S', .bool T', .int .i64 P', .int .i64 V', .bool Q', .int .i64 N', .int .i64 Y', .string X'] 23) = w5 at *
            generalize w4.heap.size = F at *
            obtain ⟨c0, c1, c2, c3, c4, c5, c6, c7, c8⟩ := fr_cells hF
            go_upto_region 15 with (go_at_call 11; ((with_reducible refine (encode_is D' S' P' V' N' Y' T' Q' X' y 0 _ HT HE).mono ?_); rintro e' w6 ⟨rfl, k6⟩))
            have hF6 := fr_k hF k6
            have K6 := Lib.hid (K4.out.trans k6)
            clear K4 hF k6 c0 c1 c2 c3 c4 c5 c6 c7 c8
            obtain ⟨c0, c1, c2, c3, c4, c5, c6, c7, c8⟩ := fr_cells hF6
            go_upto_region 16 with fail
            have hL : FrAt (w6.alloc (.cells #[.int .i64 D', .int .i64 S', .bool T', .int .i64 P', .int .i64 V', .bool Q', .int .i64 N', .int .i64 Y', .string X'] 23)) w6.heap.size D' S' T' P' V' Q' N' Y' X' := heap_alloc_new w6 _
            have hF7 := fr_k hF6 ((Keep.refl w6).alloc (.cells #[.int .i64 D', .int .i64 S', .bool T', .int .i64 P', .int .i64 V', .bool Q', .int .i64 N', .int .i64 Y', .string X'] 23))
            have HWL : Hid (w.heap.size ≤ w6.heap.size) := Lib.hid K6.out.size
            have K7 := Lib.hid (K6.out.alloc (.cells #[.int .i64 D', .int .i64 S', .bool T', .int .i64 P', .int .i64 V', .bool Q', .int .i64 N', .int .i64 Y', .string X'] 23))
            clear K6 hF6 c0 c1 c2 c3 c4 c5 c6 c7 c8
            generalize w6.alloc (.cells #[.int .i64 D', .int .i64 S', .bool T', .int .i64 P', .int .i64 V', .bool Q', .int .i64 N', .int .i64 Y', .string X'] 23) = w7 at *
            generalize w6.heap.size = L at *
            obtain ⟨-, -, -, -, -, -, -, -, c8⟩ := fr_cells hF7
            obtain ⟨-, -, -, -, -, -, -, -, d8⟩ := fr_cells hL
            have f8 := fr_free hL 8
            go_upto_region 17 with fail
            have hkx := keepX_set w7 L 8 (.string XZ)
            have hL8 := fr_data hL XZ
            have K8 := Lib.hid (K7.out.byX hkx HWL.out)
            clear K7 hL hF7 hkx c8 d8 f8
            generalize w7.setCell ⟨L, 8, none⟩ (.string XZ) = w8 at *
            obtain ⟨c0, c1, c2, c3, c4, c5, c6, c7, c8⟩ := fr_cells hL8
            go_upto_region 18 with (go_at_call 11; ((with_reducible refine (encode_is D' S' P' V' N' Y' T' Q' XZ lt 0 _ HLT HLE).mono ?_); rintro e' w9 ⟨rfl, k9⟩))
            have K9 := Lib.hid (K8.out.trans k9)
            clear K8 hL8 k9 c0 c1 c2 c3 c4 c5 c6 c7 c8 HQ HT HE HLT HLE
            go_wp2
            go_roundw
            case rel => exact ⟨j + 1, by omega, by go_num, K9⟩
            case measure => simp [intOf]; omega
          | false =>
            have HLE := Lib.hid (err_no hlo)
            clear fno hlt2 hlo fok
            go_upto_region 14 with (go_at_call 19; ((with_reducible refine (HQ.out _).mono ?_); rintro e' w4 ⟨rfl, k4⟩))
            have hF : FrAt (w4.alloc (.cells #[.int .i64 D', .int .i64 S', .bool T', .int .i64 P', .int .i64 V', .bool Q', .int .i64 N', .int .i64 Y', .string X'] 23)) w4.heap.size D' S' T' P' V' Q' N' Y' X' := heap_alloc_new w4 _
            have K4 := Lib.hid ((HKr.out.trans k4).alloc (.cells #[.int .i64 D', .int .i64 S', .bool T', .int .i64 P', .int .i64 V', .bool Q', .int .i64 N', .int .i64 Y', .string X'] 23))
            clear k4
            generalize w4.alloc (.cells #[.int .i64 D', .int .i64 S', .bool T', .int .i64 P', .int .i64 V', .bool Q', .int .i64 N', .int .i64 Y', .string X'] 23) = w5 at *
            generalize w4.heap.size = F at *
            obtain ⟨c0, c1, c2, c3, c4, c5, c6, c7, c8⟩ := fr_cells hF
            go_upto_region 15 with (go_at_call 11; ((with_reducible refine (encode_is D' S' P' V' N' Y' T' Q' X' y 0 _ HT HE).mono ?_); rintro e' w6 ⟨rfl, k6⟩))
            have hF6 := fr_k hF k6
            have K6 := Lib.hid (K4.out.trans k6)
            clear K4 hF k6 c0 c1 c2 c3 c4 c5 c6 c7 c8
            obtain ⟨c0, c1, c2, c3, c4, c5, c6, c7, c8⟩ := fr_cells hF6
            go_upto_region 16 with fail
            have hL : FrAt (w6.alloc (.cells #[.int .i64 D', .int .i64 S', .bool T', .int .i64 P', .int .i64 V', .bool Q', .int .i64 N', .int .i64 Y', .string X'] 23)) w6.heap.size D' S' T' P' V' Q' N' Y' X' := heap_alloc_new w6 _
            have hF7 := fr_k hF6 ((Keep.refl w6).alloc (.cells #[.int .i64 D', .int .i64 S', .bool T', .int .i64 P', .int .i64 V', .bool Q', .int .i64 N', .int .i64 Y', .string X'] 23))
            have HWL : Hid (w.heap.size ≤ w6.heap.size) := Lib.hid K6.out.size
            have K7 := Lib.hid (K6.out.alloc (.cells #[.int .i64 D', .int .i64 S', .bool T', .int .i64 P', .int .i64 V', .bool Q', .int .i64 N', .int .i64 Y', .string X'] 23))
            clear K6 hF6 c0 c1 c2 c3 c4 c5 c6 c7 c8
            generalize w6.alloc (.cells #[.int .i64 D', .int .i64 S', .bool T', .int .i64 P', .int .i64 V', .bool Q', .int .i64 N', .int .i64 Y', .string X'] 23) = w7 at *
            generalize w6.heap.size = L at *
            obtain ⟨-, -, -, -, -, -, -, -, c8⟩ := fr_cells hF7
            obtain ⟨-, -, -, -, -, -, -, -, d8⟩ := fr_cells hL
            have f8 := fr_free hL 8
            go_upto_region 17 with fail
            have hkx := keepX_set w7 L 8 (.string XZ)
            have hL8 := fr_data hL XZ
            have K8 := Lib.hid (K7.out.byX hkx HWL.out)
            clear K7 hL hF7 hkx c8 d8 f8
            generalize w7.setCell ⟨L, 8, none⟩ (.string XZ) = w8 at *
            obtain ⟨c0, c1, c2, c3, c4, c5, c6, c7, c8⟩ := fr_cells hL8
            go_upto_region 18 with (go_at_call 11; ((with_reducible refine (encode_is D' S' P' V' N' Y' T' Q' XZ lt 170 _ HLT HLE).mono ?_); rintro e' w9 ⟨rfl, k9⟩))
            have K9 := Lib.hid (K8.out.trans k9)
            clear K8 hL8 k9 c0 c1 c2 c3 c4 c5 c6 c7 c8 HQ HT HE HLT HLE
            go_wp2
            go_roundw
            case rel => exact ⟨j + 1, by omega, by go_num, K9⟩
            case measure => simp [intOf]; omega
      · obtain rfl : j = 4 := by omega
        go_wp2
        go_ret
        exact ⟨rfl, HKr.out⟩
  end Go.Proofs.Ytmgnmkdjphnaoaa
