/- FrameBack answers true for every input. -/
import Derived.Test.YtmgnmkdjphnaoaaFWorks
import Derived.Test.YtmgnmkdjphnaoaaFDraft
import Derived.Test.YtmgnmkdjphnaoaaTail
namespace Go.Proofs.Ytmgnmkdjphnaoaa
open Go Go.RowKit

set_option maxRecDepth 1000000 in
set_option maxHeartbeats 8000000 in
theorem lawBack_any (a b l g k q : Int) (x : ByteArray) (w : World) (ha : 0 ≤ a ∧ a < 65536) (hb : 0 ≤ b ∧ b < 65536) (hl : 0 ≤ l ∧ l < 65536) (hg : 0 ≤ g ∧ g < 256) (hk : 0 ≤ k ∧ k < 256) (hq : 0 ≤ q ∧ q < 65536) (hx : x.size ≤ maxLen) : Calls Try.prog 5 #[.agg #[.int .u16 a, .int .u16 b, .int .u16 l, .int .u8 g, .int .u8 k, .int .u16 q, .string x]] w (Res (.bool true) w) := by
  have hd : ∀ w', Calls Try.prog 9 #[.agg #[.int .u16 a, .int .u16 b, .int .u16 l, .int .u8 g, .int .u8 k, .int .u16 q, .string x]] w' (SomeF w') := fun w' => draft_any a b l g k q x w' ha hb hl hg hk hq hx
  have HD := Lib.hid hd
  clear hd ha hb hl hg hk hq hx
  go_enter Try.func5, Try.ntmps5
  go_upto_region 3 with (go_at_call 17; ((with_reducible refine (works_any _).mono ?_); rintro e' w1 ⟨rfl, k1⟩))
  have hA : DrAt w1 w.heap.size a b l g k q x := keepRow k1 (heap_alloc_new w (.cells #[.int .u16 a, .int .u16 b, .int .u16 l, .int .u8 g, .int .u8 k, .int .u16 q, .string x] 26))
  have K1 := Lib.hid (((Keep.refl w).alloc (.cells #[.int .u16 a, .int .u16 b, .int .u16 l, .int .u8 g, .int .u8 k, .int .u16 q, .string x] 26)).trans k1)
  clear k1
  generalize w.heap.size = A at *
  obtain ⟨a0, a1, a2, a3, a4, a5, a6⟩ := dr_cells hA
  go_upto_region 4 with (go_at_call 9; ((with_reducible refine (HD.out _).mono ?_); rintro e' w2 ⟨⟨D, S, Tg, P, V, Sq, N, Y, X⟩, hok, rfl, k2⟩))
  have hF : FrAt (w2.alloc (.cells #[.int .i64 D, .int .i64 S, .bool Tg, .int .i64 P, .int .i64 V, .bool Sq, .int .i64 N, .int .i64 Y, .string X] 23)) w2.heap.size D S Tg P V Sq N Y X := heap_alloc_new w2 _
  have hAF : w.heap.size ≤ w2.heap.size := Nat.le_trans K1.out.size k2.size
  have K2 := Lib.hid ((K1.out.trans k2).alloc (.cells #[.int .i64 D, .int .i64 S, .bool Tg, .int .i64 P, .int .i64 V, .bool Sq, .int .i64 N, .int .i64 Y, .string X] 23))
  clear K1 k2 hA a0 a1 a2 a3 a4 a5 a6 HD
  generalize w2.alloc (.cells #[.int .i64 D, .int .i64 S, .bool Tg, .int .i64 P, .int .i64 V, .bool Sq, .int .i64 N, .int .i64 Y, .string X] 23) = w3 at *
  generalize w2.heap.size = F at *
  obtain ⟨t, ht⟩ : ∃ t, Frm.enc ⟨D, S, Tg, P, V, Sq, N, Y, X⟩ = t := ⟨_, rfl⟩
  have HT := Lib.hid ((str_ok hok).trans ht)
  have HE := Lib.hid (err_ok hok)
  have h1 := ok_data _ hok
  have h2 := hd_size ⟨D, S, Tg, P, V, Sq, N, Y, X⟩
  have h3 := enc_sz ⟨D, S, Tg, P, V, Sq, N, Y, X⟩
  have h4 := ((ok_iff _).1 hok).2.2.2
  rw [ht] at h3
  obtain ⟨hs, hhs⟩ : ∃ h, Frm.hd ⟨D, S, Tg, P, V, Sq, N, Y, X⟩ = h := ⟨_, rfl⟩
  rw [hhs] at h2 h3
  dsimp only at h1 h2 h3 h4
  have hsz : 64 ≤ t.size ∧ t.size ≤ 1522 := by
    unfold only at h4
    revert h2 h4
    cases Tg <;> cases Sq <;> simp <;> omega
  obtain ⟨wn, hwn⟩ : ∃ n : Int, (t.size : Int) + 20 = n := ⟨_, rfl⟩
  have HW : Hid (Frm.wire ⟨D, S, Tg, P, V, Sq, N, Y, X⟩ = wn) := Lib.hid (by unfold Frm.wire; rw [hok, if_pos rfl, ht, hwn])
  obtain ⟨m, hm⟩ : ∃ m, 60 - (hs.size + X.size) = m := ⟨_, rfl⟩
  obtain ⟨XL, hXL⟩ : ∃ XL, (if Y = 0 then X else X ++ zeros m) = XL := ⟨_, rfl⟩
  have hlong : Frm.long ⟨D, S, Tg, P, V, Sq, N, Y, X⟩ = ⟨D, S, Tg, P, V, Sq, N, Y, XL⟩ := by
    unfold Frm.long
    rw [hhs]
    dsimp only
    rw [hm, hXL]
  have HB1 : Hid (decP (Frm.enc ⟨D, S, Tg, P, V, Sq, N, Y, X⟩) = some ⟨D, S, Tg, P, V, Sq, N, Y, XL⟩) := Lib.hid (by rw [dec_enc hok, hlong])
  have HOL : Hid (Frm.ok ⟨D, S, Tg, P, V, Sq, N, Y, XL⟩ = true) := Lib.hid (by rw [← hlong]; exact long_ok hok)
  have HB2 : Hid (decP (Frm.enc ⟨D, S, Tg, P, V, Sq, N, Y, XL⟩) = some ⟨D, S, Tg, P, V, Sq, N, Y, XL⟩) := Lib.hid (by rw [dec_enc HOL.out, ← hlong, long_long])
  have HOK := Lib.hid hok
  have HG : Hid (goodS t 0#32 = true) := Lib.hid (by rw [← ht]; exact enc_good _)
  have HH : Hid (hs.size = 14 + (if Tg then 4 else 0) + (if Sq then 6 else 0)) := Lib.hid h2
  have HX1 := Lib.hid h1
  clear ht hok hhs hlong h2 h3 h4
  obtain ⟨c0, c1, c2, c3, c4, c5, c6, c7, c8⟩ := fr_cells hF
  go_upto_region 6 with (first | (go_at_call 11; ((with_reducible refine (encode_is D S P V N Y Tg Sq X t 0 _ HT HE).mono ?_); rintro e' w4 ⟨rfl, k4⟩; have hF := fr_k hF k4; clear c0 c1 c2 c3 c4 c5 c6 c7 c8; obtain ⟨c0, c1, c2, c3, c4, c5, c6, c7, c8⟩ := fr_cells hF)) | (go_at_call 13; ((with_reducible refine (wire_is D S P V N Y Tg Sq X wn 0 _ HW HE).mono ?_); rintro e' w5 ⟨rfl, k5⟩)))
  have hF5 := fr_k hF k5
  have K5 := Lib.hid ((K2.out.trans k4).trans k5)
  clear hF K2 k4 k5 c0 c1 c2 c3 c4 c5 c6 c7 c8
  obtain ⟨c0, c1, c2, c3, c4, c5, c6, c7, c8⟩ := fr_cells hF5
  go_upto_region 7 with fail
  have hW : FrAt (w5.alloc (.cells #[.int .i64 D, .int .i64 S, .bool Tg, .int .i64 P, .int .i64 V, .bool Sq, .int .i64 N, .int .i64 Y, .string X] 23)) w5.heap.size D S Tg P V Sq N Y X := heap_alloc_new w5 _
  have hF6 := fr_k hF5 ((Keep.refl w5).alloc (.cells #[.int .i64 D, .int .i64 S, .bool Tg, .int .i64 P, .int .i64 V, .bool Sq, .int .i64 N, .int .i64 Y, .string X] 23))
  have HNE : Hid (F ≠ w5.heap.size ∧ w.heap.size ≤ w5.heap.size) := Lib.hid ⟨by have := heap_lt hF5; omega, K5.out.size⟩
  have K6 := Lib.hid (K5.out.alloc (.cells #[.int .i64 D, .int .i64 S, .bool Tg, .int .i64 P, .int .i64 V, .bool Sq, .int .i64 N, .int .i64 Y, .string X] 23))
  clear hF5 K5 c0 c1 c2 c3 c4 c5 c6 c7 c8
  generalize w5.alloc (.cells #[.int .i64 D, .int .i64 S, .bool Tg, .int .i64 P, .int .i64 V, .bool Sq, .int .i64 N, .int .i64 Y, .string X] 23) = w6 at *
  generalize w5.heap.size = W at *
  obtain ⟨c0, c1, c2, c3, c4, c5, c6, c7, c8⟩ := fr_cells hF6
  go_upto_if 27 with fail
  go_cut [] (fun wx => Hid (FrAt wx F D S Tg P V Sq N Y X) ∧ Hid (FrAt wx W D S Tg P V Sq N Y XL) ∧ Hid (Keep w wx))
  case first =>
    by_cases hy : Y = 0
    · have hyb : (Y != 0) = false := by simp [hy]
      rw [if_pos hy] at hXL
      subst hXL
      go_wp2
      go_meet
      exact ⟨Lib.hid hF6, Lib.hid hW, K6⟩
    · have hyb : (Y != 0) = true := by simp [hy]
      rw [if_neg hy] at hXL
      have HXL := Lib.hid hXL
      clear hXL
      go_upto_if 29 with fail
      go_cut [9] (fun v wx => v = .int .i64 (14 + (if Tg then 4 else 0)) ∧ w6 = wx)
      case first =>
        cases Tg with
        | true =>
          go_wp2
          go_meet
          exact ⟨rfl, rfl⟩
        | false =>
          go_wp2
          go_meet
          exact ⟨rfl, rfl⟩
      case rest =>
        obtain ⟨rfl, rfl⟩ := hcut
        obtain ⟨h14, hh14⟩ : ∃ h : Int, 14 + (if Tg then 4 else 0) = h := ⟨_, rfl⟩
        have hb14 : 14 ≤ h14 ∧ h14 ≤ 18 := by rw [← hh14]; split <;> omega
        rw [hh14]
        go_upto_if 33 with fail
        go_cut [9] (fun v wx => v = .int .i64 (hs.size : Int) ∧ w6 = wx)
        case first =>
          have hsv : (hs.size : Int) = h14 + (if Sq then 6 else 0) := by
            rw [← hh14, HH.out]
            cases Tg <;> cases Sq <;> rfl
          have HSV := Lib.hid hsv
          clear hsv hh14 HH
          cases Sq with
          | true =>
            have hw : wrap64 (h14 + 6) = h14 + 6 := by unfold wrap64; omega
            go_wp2
            go_meet
            exact ⟨by rw [HSV.out]; rfl, rfl⟩
          | false =>
            go_wp2
            go_meet
            exact ⟨by rw [HSV.out]; simp, rfl⟩
        case rest =>
          obtain ⟨rfl, rfl⟩ := hcut
          clear hh14 hb14
          obtain ⟨hsn, hhn⟩ : ∃ h : Int, (hs.size : Int) = h := ⟨_, rfl⟩
          obtain ⟨xn, hxn⟩ : ∃ n : Int, (X.size : Int) = n := ⟨_, rfl⟩
          rw [hhn]
          have hsb : 14 ≤ hsn ∧ hsn ≤ 24 := by rw [← hhn, HH.out]; split <;> split <;> omega
          have hwa : IntKind.i64.wrap (60 - hsn) = 60 - hsn := IntWalk.i64_in _ (by omega)
          have hxb : 0 ≤ xn ∧ xn ≤ 1500 := by have := HX1.out; omega
          have hwb : IntKind.i64.wrap (60 - hsn - xn) = 60 - hsn - xn := IntWalk.i64_in _ (by omega)
          have hmx : max 0 (60 - hsn - xn) = (m : Int) := by omega
          obtain ⟨zz, hzz⟩ : ∃ zz, repS 0 m = zz := ⟨_, rfl⟩
          have HZZ := Lib.hid hzz
          have hzs : zz.size = m := by rw [← hzz, repS_size]
          have HXA : Hid (X ++ zz = XL) := Lib.hid (by rw [← HXL.out, ← hzz]; rfl)
          have HMB : Hid (m ≤ 100000) := Lib.hid (by omega)
          have HBB : Hid (¬ 9223372036854775807 < X.size + m) := Lib.hid (by have := HX1.out; have := HMB.out; omega)
          have HXN := Lib.hid hxn
          have HWA := Lib.hid hwa
          have HWB := Lib.hid hwb
          have HMX := Lib.hid hmx
          have HZS := Lib.hid hzs
          clear hzz hm hhn hxn hwa hwb hmx hzs hsb hxb h1
          go_upto_region 13 with fail
          refine region_tail (h := 12) (W0 := w6) (listF [fun v ww => v = .pointer (some ⟨F, 8, none⟩), fun v ww => v = .string X, fun v ww => v = .int .i64 hsn, fun v ww => v = .int .i64 (60 - hsn), fun v ww => v = .pointer (some ⟨F, 8, none⟩), fun v ww => v = .string X, fun v ww => v = .int .i64 xn, fun v ww => v = .int .i64 (60 - hsn - xn), fun v ww => v = .int .i64 (m : Int), fun v ww => v = .string zz, fun v ww => v = .string XL, fun v ww => v = .pointer (some ⟨W, 8, none⟩)]) (listF_stable _ ⟨fun _ _ _ _ h => h, fun _ _ _ _ h => h, fun _ _ _ _ h => h, fun _ _ _ _ h => h, fun _ _ _ _ h => h, fun _ _ _ _ h => h, fun _ _ _ _ h => h, fun _ _ _ _ h => h, fun _ _ _ _ h => h, fun _ _ _ _ h => h, fun _ _ _ _ h => h, fun _ _ _ _ h => h, trivial⟩) (by kernel_rfl) (by kernel_rfl) (by kernel_rfl) (by kernel_rfl) (by kernel_rfl) (by kernel_rfl) (Keep.refl _) ?done1 ?steps1
          case done1 =>
            intro T1 wz1 hJ
            obtain ⟨x0, t0, f0⟩ := hJ.fact 0 36 (by decide) (by kernel_rfl)
            obtain rfl : x0 = .pointer (some ⟨F, 8, none⟩) := f0
            obtain ⟨x1, t1, f1⟩ := hJ.fact 1 37 (by decide) (by kernel_rfl)
            obtain rfl : x1 = .string X := f1
            obtain ⟨x2, t2, f2⟩ := hJ.fact 2 38 (by decide) (by kernel_rfl)
            obtain rfl : x2 = .int .i64 hsn := f2
            obtain ⟨x3, t3, f3⟩ := hJ.fact 3 39 (by decide) (by kernel_rfl)
            obtain rfl : x3 = .int .i64 (60 - hsn) := f3
            obtain ⟨x4, t4, f4⟩ := hJ.fact 4 40 (by decide) (by kernel_rfl)
            obtain rfl : x4 = .pointer (some ⟨F, 8, none⟩) := f4
            obtain ⟨x5, t5, f5⟩ := hJ.fact 5 41 (by decide) (by kernel_rfl)
            obtain rfl : x5 = .string X := f5
            obtain ⟨x6, t6, f6⟩ := hJ.fact 6 42 (by decide) (by kernel_rfl)
            obtain rfl : x6 = .int .i64 xn := f6
            obtain ⟨x7, t7, f7⟩ := hJ.fact 7 43 (by decide) (by kernel_rfl)
            obtain rfl : x7 = .int .i64 (60 - hsn - xn) := f7
            obtain ⟨x8, t8, f8⟩ := hJ.fact 8 44 (by decide) (by kernel_rfl)
            obtain rfl : x8 = .int .i64 (m : Int) := f8
            obtain ⟨x9, t9, f9⟩ := hJ.fact 9 45 (by decide) (by kernel_rfl)
            obtain rfl : x9 = .string zz := f9
            obtain ⟨x10, t10, f10⟩ := hJ.fact 10 46 (by decide) (by kernel_rfl)
            obtain rfl : x10 = .string XL := f10
            obtain ⟨x11, t11, f11⟩ := hJ.fact 11 47 (by decide) (by kernel_rfl)
            obtain rfl : x11 = .pointer (some ⟨W, 8, none⟩) := f11
            have hfr := hJ.frameTo [(36, .pointer (some ⟨F, 8, none⟩)), (37, .string X), (38, .int .i64 hsn), (39, .int .i64 (60 - hsn)), (40, .pointer (some ⟨F, 8, none⟩)), (41, .string X), (42, .int .i64 xn), (43, .int .i64 (60 - hsn - xn)), (44, .int .i64 (m : Int)), (45, .string zz), (46, .string XL), (47, .pointer (some ⟨W, 8, none⟩))] (by simp [t0, t1, t2, t3, t4, t5, t6, t7, t8, t9, t10, t11]) (by kernel_rfl)
            have G := hJ.keep
            clear hJ t0 t1 t2 t3 t4 t5 t6 t7 t8 t9 t10 t11
            rw [hfr]
            clear hfr T1
            simp only [List.foldl_cons, List.foldl_nil, List.setIfInBounds_toArray, List.set_cons_zero, List.set_cons_succ, List.drop_succ_cons, List.drop_zero]
            have hW1 := fr_k hW G
            have hF1 := fr_k hF6 G
            have K7 := Lib.hid (K6.out.trans G)
            obtain ⟨-, -, -, -, -, -, -, -, d8⟩ := fr_cells hW1
            have f8 := fr_free hW1 8
            clear c0 c1 c2 c3 c4 c5 c6 c7 c8
            go_wp2
            go_meet
            have hkx := keepX_set wz1 W 8 (.string XL)
            exact ⟨Lib.hid (fr_x hF1 hkx HNE.out.1), Lib.hid (fr_data hW1 XL), Lib.hid (K7.out.byX hkx HNE.out.2)⟩
          case steps1 =>
            refine LinSteps.cons (k := 0) ?_ (LinSteps.cons (k := 1) ?_ (LinSteps.cons (k := 2) ?_ (LinSteps.cons (k := 3) ?_ (LinSteps.cons (k := 4) ?_ (LinSteps.cons (k := 5) ?_ (LinSteps.cons (k := 6) ?_ (LinSteps.cons (k := 7) ?_ (LinSteps.cons (k := 8) ?_ (LinSteps.cons (k := 9) ?_ (LinSteps.cons (k := 10) ?_ (LinSteps.cons (k := 11) ?_ (LinSteps.nil))))))))))))
            · -- 0
              refine LinStep.plain rfl ?_
              intro QQ bb T ww hn hJ hd K HK
              have s3 := (hJ.oldSlot 3 (by kernel_rfl))
              simp only [List.getElem?_toArray, List.getElem?_cons_zero, List.getElem?_cons_succ] at s3
              have G := hJ.keep
              clear hJ hd hn
              go_simp
              exact HK.out _ _ (Keep.refl _) rfl
            · -- 1
              refine LinStep.plain rfl ?_
              intro QQ bb T ww hn hJ hd K HK
              obtain ⟨x0, t0, f0⟩ := hJ.dep hd 0 36 (by kernel_rfl) (by kernel_rfl)
              obtain rfl : x0 = .pointer (some ⟨F, 8, none⟩) := f0
              have G := hJ.keep
              clear hJ hd hn
              have k0 := G.some c8
              go_simp
              exact HK.out _ _ (Keep.refl _) rfl
            · -- 2
              refine LinStep.plain rfl ?_
              intro QQ bb T ww hn hJ hd K HK
              have s9 := (hJ.oldSlot 9 (by kernel_rfl))
              simp only [List.getElem?_toArray, List.getElem?_cons_zero, List.getElem?_cons_succ] at s9
              have G := hJ.keep
              clear hJ hd hn
              go_simp
              exact HK.out _ _ (Keep.refl _) rfl
            · -- 3
              refine LinStep.plain rfl ?_
              intro QQ bb T ww hn hJ hd K HK
              obtain ⟨x2, t2, f2⟩ := hJ.dep hd 2 38 (by kernel_rfl) (by kernel_rfl)
              obtain rfl : x2 = .int .i64 hsn := f2
              have G := hJ.keep
              clear hJ hd hn
              have h1 := HWA.out
              go_simp
              exact HK.out _ _ (Keep.refl _) rfl
            · -- 4
              refine LinStep.plain rfl ?_
              intro QQ bb T ww hn hJ hd K HK
              have s3 := (hJ.oldSlot 3 (by kernel_rfl))
              simp only [List.getElem?_toArray, List.getElem?_cons_zero, List.getElem?_cons_succ] at s3
              have G := hJ.keep
              clear hJ hd hn
              go_simp
              exact HK.out _ _ (Keep.refl _) rfl
            · -- 5
              refine LinStep.plain rfl ?_
              intro QQ bb T ww hn hJ hd K HK
              obtain ⟨x4, t4, f4⟩ := hJ.dep hd 4 40 (by kernel_rfl) (by kernel_rfl)
              obtain rfl : x4 = .pointer (some ⟨F, 8, none⟩) := f4
              have G := hJ.keep
              clear hJ hd hn
              have k0 := G.some c8
              go_simp
              exact HK.out _ _ (Keep.refl _) rfl
            · -- 6
              refine LinStep.plain rfl ?_
              intro QQ bb T ww hn hJ hd K HK
              obtain ⟨x5, t5, f5⟩ := hJ.dep hd 5 41 (by kernel_rfl) (by kernel_rfl)
              obtain rfl : x5 = .string X := f5
              have G := hJ.keep
              clear hJ hd hn
              have h1 := HXN.out
              go_simp
              exact HK.out _ _ (Keep.refl _) rfl
            · -- 7
              refine LinStep.plain rfl ?_
              intro QQ bb T ww hn hJ hd K HK
              obtain ⟨x3, t3, f3⟩ := hJ.dep hd 3 39 (by kernel_rfl) (by kernel_rfl)
              obtain rfl : x3 = .int .i64 (60 - hsn) := f3
              obtain ⟨x6, t6, f6⟩ := hJ.dep hd 6 42 (by kernel_rfl) (by kernel_rfl)
              obtain rfl : x6 = .int .i64 xn := f6
              have G := hJ.keep
              clear hJ hd hn
              have h1 := HWB.out
              go_simp
              exact HK.out _ _ (Keep.refl _) rfl
            · -- 8
              refine LinStep.plain rfl ?_
              intro QQ bb T ww hn hJ hd K HK
              obtain ⟨x7, t7, f7⟩ := hJ.dep hd 7 43 (by kernel_rfl) (by kernel_rfl)
              obtain rfl : x7 = .int .i64 (60 - hsn - xn) := f7
              have G := hJ.keep
              clear hJ hd hn
              have h1 := HMX.out
              go_simp
              exact HK.out _ _ (Keep.refl _) rfl
            · -- 9
              refine LinStep.plain rfl ?_
              intro QQ bb T ww hn hJ hd K HK
              obtain ⟨x8, t8, f8⟩ := hJ.dep hd 8 44 (by kernel_rfl) (by kernel_rfl)
              obtain rfl : x8 = .int .i64 (m : Int) := f8
              have G := hJ.keep
              clear hJ hd hn
              go_wp2_with (go_at_call 21; ((with_reducible refine (rep_is 0 m m zz _ HMB.out rfl HZZ).mono ?_); rintro e' w9 ⟨rfl, hk⟩))
              exact HK.out _ _ hk rfl
            · -- 10
              refine LinStep.plain rfl ?_
              intro QQ bb T ww hn hJ hd K HK
              obtain ⟨x1, t1, f1⟩ := hJ.dep hd 1 37 (by kernel_rfl) (by kernel_rfl)
              obtain rfl : x1 = .string X := f1
              obtain ⟨x9, t9, f9⟩ := hJ.dep hd 9 45 (by kernel_rfl) (by kernel_rfl)
              obtain rfl : x9 = .string zz := f9
              have G := hJ.keep
              clear hJ hd hn
              have h1 := HXA.out
              have h2 := HBB.out
              have h3 := HZS.out
              go_simp
              exact HK.out _ _ (Keep.refl _) rfl
            · -- 11
              refine LinStep.plain rfl ?_
              intro QQ bb T ww hn hJ hd K HK
              have s8 := (hJ.oldSlot 8 (by kernel_rfl))
              simp only [List.getElem?_toArray, List.getElem?_cons_zero, List.getElem?_cons_succ] at s8
              have G := hJ.keep
              clear hJ hd hn
              go_simp
              exact HK.out _ _ (Keep.refl _) rfl
  case rest =>
    clear hF6 hW K6 c0 c1 c2 c3 c4 c5 c6 c7 c8
    obtain ⟨hF, hW, K⟩ := hcut
    replace hF := hF.out
    replace hW := hW.out
    obtain ⟨c0, c1, c2, c3, c4, c5, c6, c7, c8⟩ := fr_cells hF
    obtain ⟨d0, d1, d2, d3, d4, d5, d6, d7, d8⟩ := fr_cells hW
    have hge : decide (84 ≤ wn) = true := decide_eq_true (by omega)
    have hle : decide (wn ≤ 1542) = true := decide_eq_true (by omega)
    have HTS : Hid (t.size ≤ 100000) := Lib.hid (by omega)
    have hww : wrap64 wn = wn := by unfold wrap64; omega
    clear hsz h1 hm hXL
    go_wp2_with (first | (go_at_call 15; ((with_reducible refine (check_is D S P V N Y Tg Sq X 0 _ HE).mono ?_); rintro e' w8 ⟨rfl, kk⟩; have hF := fr_k hF kk; have hW := fr_k hW kk; have K := Lib.hid (K.out.trans kk); clear kk c0 c1 c2 c3 c4 c5 c6 c7 c8 d0 d1 d2 d3 d4 d5 d6 d7 d8; obtain ⟨c0, c1, c2, c3, c4, c5, c6, c7, c8⟩ := fr_cells hF; obtain ⟨d0, d1, d2, d3, d4, d5, d6, d7, d8⟩ := fr_cells hW)) | (go_at_call 22; ((with_reducible refine (good_is t true _ HTS.out HG).mono ?_); rintro e' w8 ⟨rfl, kk⟩; have hF := fr_k hF kk; have hW := fr_k hW kk; have K := Lib.hid (K.out.trans kk); clear kk c0 c1 c2 c3 c4 c5 c6 c7 c8 d0 d1 d2 d3 d4 d5 d6 d7 d8; obtain ⟨c0, c1, c2, c3, c4, c5, c6, c7, c8⟩ := fr_cells hF; obtain ⟨d0, d1, d2, d3, d4, d5, d6, d7, d8⟩ := fr_cells hW)) | (go_at_call 23; ((with_reducible refine (back_is D S P V N Y Tg Sq X _ D S P V N Y Tg Sq XL HOK HB1).mono ?_); rintro e' w8 ⟨rfl, kk⟩; have hF := fr_k hF kk; have hW := fr_k hW kk; have K := Lib.hid (K.out.trans kk); clear kk c0 c1 c2 c3 c4 c5 c6 c7 c8 d0 d1 d2 d3 d4 d5 d6 d7 d8; obtain ⟨c0, c1, c2, c3, c4, c5, c6, c7, c8⟩ := fr_cells hF; obtain ⟨d0, d1, d2, d3, d4, d5, d6, d7, d8⟩ := fr_cells hW)) | (go_at_call 23; ((with_reducible refine (back_is D S P V N Y Tg Sq XL _ D S P V N Y Tg Sq XL HOL HB2).mono ?_); rintro e' w8 ⟨rfl, kk⟩; have hF := fr_k hF kk; have hW := fr_k hW kk; have K := Lib.hid (K.out.trans kk); clear kk c0 c1 c2 c3 c4 c5 c6 c7 c8 d0 d1 d2 d3 d4 d5 d6 d7 d8; obtain ⟨c0, c1, c2, c3, c4, c5, c6, c7, c8⟩ := fr_cells hF; obtain ⟨d0, d1, d2, d3, d4, d5, d6, d7, d8⟩ := fr_cells hW)))
    go_ret
    exact ⟨rfl, K.out⟩
  end Go.Proofs.Ytmgnmkdjphnaoaa
