/- What frame.Encode and frame.Wire return. -/
import Derived.Test.YtmgnmkdjphnaoaaFHead
import Derived.Test.YtmgnmkdjphnaoaaFCheck
import Derived.Test.YtmgnmkdjphnaoaaShelf
import Derived.Test.YtmgnmkdjphnaoaaLin
namespace Go.Proofs.Ytmgnmkdjphnaoaa
open Go Go.RowKit

theorem keepBelow {w w' : World} (h : Below w.heap.size w w') : Keep w w' := ⟨h.os, h.output, h.size, h.block⟩
/-- A string of n octets x. -/
def repS (x : UInt8) (n : Nat) : ByteArray := ⟨(List.replicate n x).toArray⟩
theorem repS_size (x n) : (repS x n).size = n := by simp [repS, ByteArray.size]
theorem rep_is (x : UInt8) (n : Nat) (c : Int) (t : ByteArray) (w : World) (hn : n ≤ 100000) (hc : c = n) (H : Hid (repS x n = t)) : Calls Try.prog 21 #[.string ⟨#[x]⟩, .int .i64 c] w (Res (.string t) w) := by
  subst hc
  have hsz : (⟨#[x]⟩ : ByteArray).size = 1 := rfl
  refine (Try.strings_Repeat ⟨#[x]⟩ n w (by omega) (by rw [hsz]; omega)).mono ?_
  rintro e w' ⟨rfl, hb⟩
  refine ⟨?_, keepBelow hb⟩
  rw [← H.out]
  unfold repS
  have h1 : (#[x] : Array UInt8).toList = List.replicate 1 x := rfl
  rw [h1, Lib.repeatL_replicate, Nat.mul_one]
theorem err_ok {f : Frm} (h : f.ok = true) : f.err = 0 := by unfold Frm.err; rw [h]; rfl
theorem err_no {f : Frm} (h : f.ok = false) : f.err = 170 := by unfold Frm.err; rw [h]; rfl
theorem str_ok {f : Frm} (h : f.ok = true) : f.str = f.enc := by unfold Frm.str; rw [h]; rfl
theorem str_no {f : Frm} (h : f.ok = false) : f.str = ⟨#[]⟩ := by unfold Frm.str; rw [h]; rfl
theorem repS_zeros (n : Nat) : repS 0 n = zeros n := rfl

set_option maxRecDepth 100000 in
set_option maxHeartbeats 2000000 in
theorem encode_is (D S P V N Y : Int) (Tg Sq : Bool) (X t : ByteArray) (c : Int) (w : World) (HT : Hid (Frm.str ⟨D, S, Tg, P, V, Sq, N, Y, X⟩ = t)) (HC : Hid (Frm.err ⟨D, S, Tg, P, V, Sq, N, Y, X⟩ = c)) : Calls Try.prog 11 #[.agg #[.int .i64 D, .int .i64 S, .bool Tg, .int .i64 P, .int .i64 V, .bool Sq, .int .i64 N, .int .i64 Y, .string X]] w (Str t c w) := by
  have ht := HT.out
  have hc := HC.out
  cases hok : Frm.ok ⟨D, S, Tg, P, V, Sq, N, Y, X⟩ with
  | false =>
    rw [str_no hok] at ht
    rw [err_no hok] at hc
    subst ht hc
    clear HT hok
    go_enter Try.func11, Try.ntmps11
    go_wp2_with (go_at_call 15; ((with_reducible refine (check_is D S P V N Y Tg Sq X _ _ HC).mono ?_); rintro e' w1 ⟨rfl, k1⟩))
    go_ret2
    exact ⟨rfl, (((Keep.refl w).alloc _).trans k1)⟩
  | true =>
    rw [str_ok hok] at ht
    rw [err_ok hok] at hc
    subst hc
    have hx : X.size ≤ 1500 := ok_data _ hok
    have hl := hd_le ⟨D, S, Tg, P, V, Sq, N, Y, X⟩
    unfold Frm.enc at ht
    dsimp only at ht
    obtain ⟨h, hh⟩ : ∃ h, Frm.hd ⟨D, S, Tg, P, V, Sq, N, Y, X⟩ = h := ⟨_, rfl⟩
    rw [hh] at ht hl
    have HH := Lib.hid hh
    obtain ⟨u, hu⟩ : ∃ u, h ++ X = u := ⟨_, rfl⟩
    have hus : u.size = h.size + X.size := by rw [← hu, ByteArray.size_append]
    rw [hu] at ht
    obtain ⟨m, hm⟩ : ∃ m, 60 - u.size = m := ⟨_, rfl⟩
    obtain ⟨zz, hz⟩ : ∃ zz, zeros m = zz := ⟨_, rfl⟩
    have hzs : zz.size = m := by rw [← hz, zeros_size]
    have HZ : Hid (repS 0 m = zz) := Lib.hid (by rw [repS_zeros, hz])
    obtain ⟨p, hp⟩ : ∃ p, u ++ zz = p := ⟨_, rfl⟩
    have hps : p.size ≤ 100000 := by rw [← hp, ByteArray.size_append]; omega
    have HT : Hid (sealG p 0#32 = t) := Lib.hid (by rw [← ht]; unfold pad; rw [hm, hz, hp])
    have HU := Lib.hid hu
    have HBB : Hid (¬ 9223372036854775807 < h.size + X.size) := Lib.hid (by omega)
    have HP := Lib.hid hp
    have HO := Lib.hid hok
    have HPS := Lib.hid hps
    have hms : m ≤ 60 := by omega
    obtain ⟨n, hn⟩ : ∃ n : Int, (u.size : Int) = n := ⟨_, rfl⟩
    have hw60 : wrap64 (60 - n) = 60 - n := by unfold wrap64; omega
    clear ht hh hu hz hp hok hps
    go_enter Try.func11, Try.ntmps11
    go_upto_region 1 with fail
    have c0 : (w.alloc (.cells #[.int .i64 D, .int .i64 S, .bool Tg, .int .i64 P, .int .i64 V, .bool Sq, .int .i64 N, .int .i64 Y, .string X] 23)).cell? ⟨w.heap.size, 0, none⟩ = some (.int .i64 D) := by simp [go_sem]
    have c1 : (w.alloc (.cells #[.int .i64 D, .int .i64 S, .bool Tg, .int .i64 P, .int .i64 V, .bool Sq, .int .i64 N, .int .i64 Y, .string X] 23)).cell? ⟨w.heap.size, 1, none⟩ = some (.int .i64 S) := by simp [go_sem]
    have c2 : (w.alloc (.cells #[.int .i64 D, .int .i64 S, .bool Tg, .int .i64 P, .int .i64 V, .bool Sq, .int .i64 N, .int .i64 Y, .string X] 23)).cell? ⟨w.heap.size, 2, none⟩ = some (.bool Tg) := by simp [go_sem]
    have c3 : (w.alloc (.cells #[.int .i64 D, .int .i64 S, .bool Tg, .int .i64 P, .int .i64 V, .bool Sq, .int .i64 N, .int .i64 Y, .string X] 23)).cell? ⟨w.heap.size, 3, none⟩ = some (.int .i64 P) := by simp [go_sem]
    have c4 : (w.alloc (.cells #[.int .i64 D, .int .i64 S, .bool Tg, .int .i64 P, .int .i64 V, .bool Sq, .int .i64 N, .int .i64 Y, .string X] 23)).cell? ⟨w.heap.size, 4, none⟩ = some (.int .i64 V) := by simp [go_sem]
    have c5 : (w.alloc (.cells #[.int .i64 D, .int .i64 S, .bool Tg, .int .i64 P, .int .i64 V, .bool Sq, .int .i64 N, .int .i64 Y, .string X] 23)).cell? ⟨w.heap.size, 5, none⟩ = some (.bool Sq) := by simp [go_sem]
    have c6 : (w.alloc (.cells #[.int .i64 D, .int .i64 S, .bool Tg, .int .i64 P, .int .i64 V, .bool Sq, .int .i64 N, .int .i64 Y, .string X] 23)).cell? ⟨w.heap.size, 6, none⟩ = some (.int .i64 N) := by simp [go_sem]
    have c7 : (w.alloc (.cells #[.int .i64 D, .int .i64 S, .bool Tg, .int .i64 P, .int .i64 V, .bool Sq, .int .i64 N, .int .i64 Y, .string X] 23)).cell? ⟨w.heap.size, 7, none⟩ = some (.int .i64 Y) := by simp [go_sem]
    have c8 : (w.alloc (.cells #[.int .i64 D, .int .i64 S, .bool Tg, .int .i64 P, .int .i64 V, .bool Sq, .int .i64 N, .int .i64 Y, .string X] 23)).cell? ⟨w.heap.size, 8, none⟩ = some (.string X) := by simp [go_sem]
    have K0 := Lib.hid ((Keep.refl w).alloc (.cells #[.int .i64 D, .int .i64 S, .bool Tg, .int .i64 P, .int .i64 V, .bool Sq, .int .i64 N, .int .i64 Y, .string X] 23))
    generalize (w.alloc (.cells #[.int .i64 D, .int .i64 S, .bool Tg, .int .i64 P, .int .i64 V, .bool Sq, .int .i64 N, .int .i64 Y, .string X] 23)) = w0 at *
    generalize w.heap.size = B at *
    go_upto_region 4 with (go_at_call 15; ((with_reducible refine (check_is D S P V N Y Tg Sq X _ _ HC).mono ?_); rintro e' w1 ⟨rfl, k1⟩; have c0 := k1.some c0; have c1 := k1.some c1; have c2 := k1.some c2; have c3 := k1.some c3; have c4 := k1.some c4; have c5 := k1.some c5; have c6 := k1.some c6; have c7 := k1.some c7; have c8 := k1.some c8))
    have HK1 := Lib.hid (K0.out.trans k1)
    clear k1 K0
    refine region_lin (W0 := w1) (listF [fun v ww => v = .agg #[.int .i64 D, .int .i64 S, .bool Tg, .int .i64 P, .int .i64 V, .bool Sq, .int .i64 N, .int .i64 Y, .string X], fun v ww => v = .string h, fun v ww => v = .pointer (some ⟨B, 8, none⟩), fun v ww => v = .string X, fun v ww => v = .string u, fun v ww => v = .string u]) (listF_stable _ ⟨fun _ _ _ _ h => h, fun _ _ _ _ h => h, fun _ _ _ _ h => h, fun _ _ _ _ h => h, fun _ _ _ _ h => h, fun _ _ _ _ h => h, trivial⟩) (by kernel_rfl) (by kernel_rfl) (by kernel_rfl) (by kernel_rfl) (Keep.refl _) ?done4 ?steps4
    case done4 =>
      intro T4 wz4 hJ
      obtain ⟨x0, t0, f0⟩ := hJ.fact 0 11 (by decide) (by kernel_rfl)
      obtain rfl : x0 = .agg #[.int .i64 D, .int .i64 S, .bool Tg, .int .i64 P, .int .i64 V, .bool Sq, .int .i64 N, .int .i64 Y, .string X] := f0
      obtain ⟨x1, t1, f1⟩ := hJ.fact 1 12 (by decide) (by kernel_rfl)
      obtain rfl : x1 = .string h := f1
      obtain ⟨x2, t2, f2⟩ := hJ.fact 2 13 (by decide) (by kernel_rfl)
      obtain rfl : x2 = .pointer (some ⟨B, 8, none⟩) := f2
      obtain ⟨x3, t3, f3⟩ := hJ.fact 3 14 (by decide) (by kernel_rfl)
      obtain rfl : x3 = .string X := f3
      obtain ⟨x4, t4, f4⟩ := hJ.fact 4 15 (by decide) (by kernel_rfl)
      obtain rfl : x4 = .string u := f4
      obtain ⟨x5, t5, f5⟩ := hJ.fact 5 5 (by decide) (by kernel_rfl)
      obtain rfl : x5 = .string u := f5
      have hfr := hJ.frame [(11, .agg #[.int .i64 D, .int .i64 S, .bool Tg, .int .i64 P, .int .i64 V, .bool Sq, .int .i64 N, .int .i64 Y, .string X]), (12, .string h), (13, .pointer (some ⟨B, 8, none⟩)), (14, .string X), (15, .string u), (5, .string u)] (by simp [t0, t1, t2, t3, t4, t5]) (by kernel_rfl)
      have G := hJ.keep
      clear hJ t0 t1 t2 t3 t4 t5
      rw [hfr]
      clear hfr T4
      simp only [List.foldl_cons, List.foldl_nil, List.setIfInBounds_toArray, List.set_cons_zero, List.set_cons_succ]
      have K4 := Lib.hid (HK1.out.trans G)
      clear G
      have hp := HP.out
      have hmn : max 0 (60 - ((h.size : Int) + (X.size : Int))) = m := by omega
      go_wp2_with (first | (go_at_call 21; ((with_reducible refine (rep_is 0 m m zz _ (by omega) rfl HZ).mono ?_); rintro e' w5 ⟨rfl, k5⟩)) | (go_at_call 24; ((with_reducible refine (seal_is p t _ HPS.out HT).mono ?_); rintro e' w6 ⟨rfl, k6⟩)))
      go_ret2
      exact ⟨rfl, (K4.out.trans k5).trans k6⟩
    case steps4 =>
      refine LinSteps.cons (k := 0) ?_ (LinSteps.cons (k := 1) ?_ (LinSteps.cons (k := 2) ?_ (LinSteps.cons (k := 3) ?_ (LinSteps.cons (k := 4) ?_ (LinSteps.cons (k := 5) ?_ (LinSteps.nil))))))
      · -- 0
        refine LinStep.plain rfl ?_
        intro QQ bb T ww hn hJ hd K HK
        have s1 := (hJ.oldSlot 1 (by kernel_rfl))
        simp only [List.getElem?_toArray, List.getElem?_cons_zero, List.getElem?_cons_succ] at s1
        have G := hJ.keep
        clear hJ hd hn
        have k0 := G.some c0
        have k1 := G.some c1
        have k2 := G.some c2
        have k3 := G.some c3
        have k4 := G.some c4
        have k5 := G.some c5
        have k6 := G.some c6
        have k7 := G.some c7
        have k8 := G.some c8
        go_simp
        exact HK.out _ _ (Keep.refl _) rfl
      · -- 1
        refine LinStep.plain rfl ?_
        intro QQ bb T ww hn hJ hd K HK
        obtain ⟨x0, t0, f0⟩ := hJ.dep hd 0 11 (by kernel_rfl) (by kernel_rfl)
        obtain rfl : x0 = .agg #[.int .i64 D, .int .i64 S, .bool Tg, .int .i64 P, .int .i64 V, .bool Sq, .int .i64 N, .int .i64 Y, .string X] := f0
        have G := hJ.keep
        clear hJ hd hn
        go_wp2_with (go_at_call 29; ((with_reducible refine (header_is D S P V N Y Tg Sq X h _ HO.out HH).mono ?_); rintro e' w2 ⟨rfl, hk⟩))
        exact HK.out _ _ hk rfl
      · -- 2
        refine LinStep.plain rfl ?_
        intro QQ bb T ww hn hJ hd K HK
        have s1 := (hJ.oldSlot 1 (by kernel_rfl))
        simp only [List.getElem?_toArray, List.getElem?_cons_zero, List.getElem?_cons_succ] at s1
        have G := hJ.keep
        clear hJ hd hn
        go_simp
        exact HK.out _ _ (Keep.refl _) rfl
      · -- 3
        refine LinStep.plain rfl ?_
        intro QQ bb T ww hn hJ hd K HK
        obtain ⟨x2, t2, f2⟩ := hJ.dep hd 2 13 (by kernel_rfl) (by kernel_rfl)
        obtain rfl : x2 = .pointer (some ⟨B, 8, none⟩) := f2
        have G := hJ.keep
        clear hJ hd hn
        have k0 := G.some c8
        go_simp
        exact HK.out _ _ (Keep.refl _) rfl
      · -- 4
        refine LinStep.plain rfl ?_
        intro QQ bb T ww hn hJ hd K HK
        obtain ⟨x1, t1, f1⟩ := hJ.dep hd 1 12 (by kernel_rfl) (by kernel_rfl)
        obtain rfl : x1 = .string h := f1
        obtain ⟨x3, t3, f3⟩ := hJ.dep hd 3 14 (by kernel_rfl) (by kernel_rfl)
        obtain rfl : x3 = .string X := f3
        have G := hJ.keep
        clear hJ hd hn
        have hu := HU.out
        have hbb := HBB.out
        go_simp
        exact HK.out _ _ (Keep.refl _) rfl
      · -- 5
        refine LinStep.plain rfl ?_
        intro QQ bb T ww hn hJ hd K HK
        obtain ⟨x4, t4, f4⟩ := hJ.dep hd 4 15 (by kernel_rfl) (by kernel_rfl)
        obtain rfl : x4 = .string u := f4
        have G := hJ.keep
        clear hJ hd hn
        go_simp
        exact HK.out _ _ (Keep.refl _) rfl
set_option maxRecDepth 100000 in
theorem wire_is (D S P V N Y : Int) (Tg Sq : Bool) (X : ByteArray) (n c : Int) (w : World) (HN : Hid (Frm.wire ⟨D, S, Tg, P, V, Sq, N, Y, X⟩ = n)) (HC : Hid (Frm.err ⟨D, S, Tg, P, V, Sq, N, Y, X⟩ = c)) : Calls Try.prog 13 #[.agg #[.int .i64 D, .int .i64 S, .bool Tg, .int .i64 P, .int .i64 V, .bool Sq, .int .i64 N, .int .i64 Y, .string X]] w (Num n c w) := by
  obtain ⟨t, ht⟩ : ∃ t, Frm.str ⟨D, S, Tg, P, V, Sq, N, Y, X⟩ = t := ⟨_, rfl⟩
  have HT := Lib.hid ht
  have hn := HN.out
  have hc := HC.out
  unfold Frm.wire at hn
  cases hok : Frm.ok ⟨D, S, Tg, P, V, Sq, N, Y, X⟩ with
  | false =>
    rw [hok, if_neg (by decide)] at hn
    rw [err_no hok] at hc
    subst hn hc
    clear ht HN hok
    go_enter Try.func13, Try.ntmps13
    go_wp2_with (go_at_call 11; ((with_reducible refine (encode_is D S P V N Y Tg Sq X t _ _ HT HC).mono ?_); rintro e' w1 ⟨rfl, k1⟩))
    go_ret2
    exact ⟨rfl, (((Keep.refl w).alloc _).trans k1)⟩
  | true =>
    have hs := ht
    rw [str_ok hok] at hs
    rw [hok, if_pos rfl, hs] at hn
    rw [err_ok hok] at hc
    subst hc
    have hx : X.size ≤ 1500 := ok_data _ hok
    have hl := hd_le ⟨D, S, Tg, P, V, Sq, N, Y, X⟩
    have hz := enc_sz ⟨D, S, Tg, P, V, Sq, N, Y, X⟩
    rw [hs] at hz
    dsimp only at hz
    have hts : t.size ≤ 2000 := by omega
    clear ht hs HN hok hz hl
    go_enter Try.func13, Try.ntmps13
    go_wp2_with (go_at_call 11; ((with_reducible refine (encode_is D S P V N Y Tg Sq X t _ _ HT HC).mono ?_); rintro e' w1 ⟨rfl, k1⟩))
    go_ret2
    exact ⟨by rw [← hn]; rfl, (((Keep.refl w).alloc _).trans k1)⟩
end Go.Proofs.Ytmgnmkdjphnaoaa
