/- What a draft's Pieces returns. -/
import Derived.Test.YtgejpbgpgklimaaMOffs
import Derived.Test.YtgejpbgpgklimaaTail
namespace Go.Proofs.Ytgejpbgpgklimaa
open Go Go.RowKit

theorem offsD_length (gs x L most) : (offsD gs x L most).length ≤ most := Nat.le_trans (offK_length _ _ _) (by omega)
theorem offsD_ok {gs : List Int} (hg : BytesL gs) (x L most) : okCuts (frmD x L).size (offsD gs x L most) = true := (offK_ok hg _ _).1
theorem cut_valid {s : ByteArray} {n : Int} {cuts : List Int} (hs : wholeB s = true) (hn : 0 ≤ n ∧ n ≤ 3) (hc : okCuts s.size cuts = true) : cutL s n cuts = pcsL s n cuts ∧ cutE s n cuts = 0 := by
  have hr : inB 0 n 3 = true := inB_iff.2 hn
  unfold cutL cutE
  rw [hs, hr, hc]
  exact ⟨rfl, rfl⟩
def pcsD (gs : List Int) (x : ByteArray) (L g : Int) (most : Nat) : List Pc := pcsL (frmD x L) (g % 4) (offsD gs x L most)
def PcsR (l : List Pc) (w : World) (e : Ending) (w' : World) : Prop := ∃ u, e = .returned u ∧ OwnP w' w.heap.size u l ∧ Keep w w'
set_option maxRecDepth 100000 in
set_option maxHeartbeats 4000000 in
theorem pieces_of (x : ByteArray) (L g : Int) (V : Value) (gs : List Int) (most : Nat) (M : Int) (ll : List Pc) (w : World) (hL : 0 ≤ L ∧ L < 65536) (hg : 0 ≤ g ∧ g < 256) (hx : x.size ≤ maxLen) (hb : BytesL gs) (hV : BytesIn w V gs) (hM : (most : Int) = M) (hmost : most ≤ 1000) (H : Hid (pcsD gs x L g most = ll)) :
    Calls Try.prog 18 #[.agg #[.string x, .int .u16 L, .int .u8 g, V], .int .i64 M] w (PcsR ll w) := by
  obtain ⟨a0, len, cap, rfl⟩ := bytes_slice hV
  have hll := H.out
  unfold pcsD at hll
  obtain ⟨t, ht⟩ : ∃ t, frmD x L = t := ⟨_, rfl⟩
  obtain ⟨l, hl⟩ : ∃ l, offsD gs x L most = l := ⟨_, rfl⟩
  obtain ⟨r, hr⟩ : ∃ r : Int, g % 4 = r := ⟨_, rfl⟩
  have hv := cut_valid (frmD_whole x L) (show 0 ≤ r ∧ r ≤ 3 by omega) (offsD_ok hb x L most)
  have hln := offsD_length gs x L most
  rw [ht, hl] at hv
  rw [hl] at hln
  rw [ht, hl, hr] at hll
  have HLL : Hid (cutL t r l = ll) := Lib.hid (hv.1.trans hll)
  have HEE : Hid (cutE t r l = 0) := Lib.hid hv.2
  have HLN : Hid (l.length ≤ 1000000) := Lib.hid (by omega)
  have HT := Lib.hid ht
  have HL := Lib.hid hl
  have HX := Lib.hid (And.intro hL hx)
  have HBL := Lib.hid hb
  have HM := Lib.hid (And.intro hM hmost)
  have HRR : Hid (g.tmod 4 = r ∧ IntKind.u8.wrap r = r ∧ IntKind.i64.wrap r = r ∧ True) := Lib.hid ⟨by rw [Int.tmod_eq_emod_of_nonneg hg.1, hr], by show r % 256 = r; omega, IntWalk.i64_in _ (by omega), trivial⟩
  clear ht hl hr hll hv hln H hmost
  go_enter Try.func18, Try.ntmps18
  go_upto_region 1 with fail
  have hA : DrT (w.alloc (.cells #[.string x, .int .u16 L, .int .u8 g, .slice a0 len cap] 25)) w.heap.size x L g (.slice a0 len cap) := heap_alloc_new w _
  have K := Lib.hid ((Keep.refl w).alloc (.cells #[.string x, .int .u16 L, .int .u8 g, .slice a0 len cap] 25))
  have HV := Lib.hid (hV.keep K.out)
  generalize (w.alloc (.cells #[.string x, .int .u16 L, .int .u8 g, .slice a0 len cap] 25)) = w0 at *
  generalize w.heap.size = A at *
  obtain ⟨c0, c1, c2, c3⟩ := dr_cells hA
  clear hV
  refine region_lin (W0 := w0) (listF [fun v ww => v = .agg #[.string x, .int .u16 L, .int .u8 g, .slice a0 len cap], fun v ww => v = .string t, fun v ww => v = .pointer (some ⟨A, 2, none⟩), fun v ww => v = .int .u8 g, fun v ww => v = .int .u8 r, fun v ww => v = .int .i64 r, fun v ww => v = .agg #[.string x, .int .u16 L, .int .u8 g, .slice a0 len cap], fun v ww => v = .int .i64 M, fun v ww => OwnI ww w0.heap.size v l, fun v ww => ∃ u, v = .tuple #[u, .int .i64 0] ∧ OwnP ww w0.heap.size u ll, fun v ww => ∃ u, v = .tuple #[u, .int .i64 0] ∧ OwnP ww w0.heap.size u ll, fun v ww => OwnP ww w0.heap.size v ll, fun v ww => v = .int .i64 0, fun v ww => OwnP ww w0.heap.size v ll, fun v ww => v = .int .i64 0]) (listF_stable _ ⟨fun _ _ _ _ h => h, fun _ _ _ _ h => h, fun _ _ _ _ h => h, fun _ _ _ _ h => h, fun _ _ _ _ h => h, fun _ _ _ _ h => h, fun _ _ _ _ h => h, fun _ _ _ _ h => h, fun _ _ _ hk h => h.keep hk, fun _ _ _ hk ⟨u, h1, h2⟩ => ⟨u, h1, h2.keep hk⟩, fun _ _ _ hk ⟨u, h1, h2⟩ => ⟨u, h1, h2.keep hk⟩, fun _ _ _ hk h => h.keep hk, fun _ _ _ _ h => h, fun _ _ _ hk h => h.keep hk, fun _ _ _ _ h => h, trivial⟩) (by kernel_rfl) (by kernel_rfl) (by kernel_rfl) (by kernel_rfl) (Keep.refl _) ?done1 ?steps1
  case done1 =>
    intro T1 wz1 hJ
    obtain ⟨x0, t0, f0⟩ := hJ.fact 0 8 (by decide) (by kernel_rfl)
    obtain rfl : x0 = .agg #[.string x, .int .u16 L, .int .u8 g, .slice a0 len cap] := f0
    obtain ⟨x1, t1, f1⟩ := hJ.fact 1 9 (by decide) (by kernel_rfl)
    obtain rfl : x1 = .string t := f1
    obtain ⟨x2, t2, f2⟩ := hJ.fact 2 10 (by decide) (by kernel_rfl)
    obtain rfl : x2 = .pointer (some ⟨A, 2, none⟩) := f2
    obtain ⟨x3, t3, f3⟩ := hJ.fact 3 11 (by decide) (by kernel_rfl)
    obtain rfl : x3 = .int .u8 g := f3
    obtain ⟨x4, t4, f4⟩ := hJ.fact 4 12 (by decide) (by kernel_rfl)
    obtain rfl : x4 = .int .u8 r := f4
    obtain ⟨x5, t5, f5⟩ := hJ.fact 5 13 (by decide) (by kernel_rfl)
    obtain rfl : x5 = .int .i64 r := f5
    obtain ⟨x6, t6, f6⟩ := hJ.fact 6 14 (by decide) (by kernel_rfl)
    obtain rfl : x6 = .agg #[.string x, .int .u16 L, .int .u8 g, .slice a0 len cap] := f6
    obtain ⟨x7, t7, f7⟩ := hJ.fact 7 15 (by decide) (by kernel_rfl)
    obtain rfl : x7 = .int .i64 M := f7
    obtain ⟨x8, t8, f8⟩ := hJ.fact 8 16 (by decide) (by kernel_rfl)
    replace f8 : OwnI wz1 w0.heap.size x8 l := f8
    obtain ⟨x9, t9, f9⟩ := hJ.fact 9 17 (by decide) (by kernel_rfl)
    replace f9 : ∃ u, x9 = .tuple #[u, .int .i64 0] ∧ OwnP wz1 w0.heap.size u ll := f9
    obtain ⟨x10, t10, f10⟩ := hJ.fact 10 7 (by decide) (by kernel_rfl)
    replace f10 : ∃ u, x10 = .tuple #[u, .int .i64 0] ∧ OwnP wz1 w0.heap.size u ll := f10
    obtain ⟨x11, t11, f11⟩ := hJ.fact 11 18 (by decide) (by kernel_rfl)
    replace f11 : OwnP wz1 w0.heap.size x11 ll := f11
    obtain ⟨x12, t12, f12⟩ := hJ.fact 12 19 (by decide) (by kernel_rfl)
    obtain rfl : x12 = .int .i64 0 := f12
    obtain ⟨x13, t13, f13⟩ := hJ.fact 13 5 (by decide) (by kernel_rfl)
    replace f13 : OwnP wz1 w0.heap.size x13 ll := f13
    obtain ⟨x14, t14, f14⟩ := hJ.fact 14 6 (by decide) (by kernel_rfl)
    obtain rfl : x14 = .int .i64 0 := f14
    have hfr := hJ.frame [(8, .agg #[.string x, .int .u16 L, .int .u8 g, .slice a0 len cap]), (9, .string t), (10, .pointer (some ⟨A, 2, none⟩)), (11, .int .u8 g), (12, .int .u8 r), (13, .int .i64 r), (14, .agg #[.string x, .int .u16 L, .int .u8 g, .slice a0 len cap]), (15, .int .i64 M), (16, x8), (17, x9), (7, x10), (18, x11), (19, .int .i64 0), (5, x13), (6, .int .i64 0)] (by simp [t0, t1, t2, t3, t4, t5, t6, t7, t8, t9, t10, t11, t12, t13, t14]) (by kernel_rfl)
    have G := hJ.keep
    clear hJ t0 t1 t2 t3 t4 t5 t6 t7 t8 t9 t10 t11 t12 t13 t14
    rw [hfr]
    clear hfr T1
    simp only [List.foldl_cons, List.foldl_nil, List.setIfInBounds_toArray, List.set_cons_zero, List.set_cons_succ]
    go_wp2
    go_ret
    exact ⟨_, rfl, f13.base K.out.size, K.out.trans G⟩
  case steps1 =>
    refine LinSteps.cons (k := 0) ?_ (LinSteps.cons (k := 1) ?_ (LinSteps.cons (k := 2) ?_ (LinSteps.cons (k := 3) ?_ (LinSteps.cons (k := 4) ?_ (LinSteps.cons (k := 5) ?_ (LinSteps.cons (k := 6) ?_ (LinSteps.cons (k := 7) ?_ (LinSteps.cons (k := 8) ?_ (LinSteps.cons (k := 9) ?_ (LinSteps.cons (k := 10) ?_ (LinSteps.cons (k := 11) ?_ (LinSteps.cons (k := 12) ?_ (LinSteps.cons (k := 13) ?_ (LinSteps.cons (k := 14) ?_ (LinSteps.nil)))))))))))))))
    · -- 0
      refine LinStep.plain rfl ?_
      intro QQ bb T ww hn hJ hd K HK
      have s2 := (hJ.oldSlot 2 (by kernel_rfl))
      simp only [List.getElem?_toArray, List.getElem?_cons_zero, List.getElem?_cons_succ] at s2
      have G := hJ.keep
      clear hJ hd hn
      have k0 := G.some c0
      have k1 := G.some c1
      have k2 := G.some c2
      have k3 := G.some c3
      go_simp
      exact HK.out _ _ (Keep.refl _) rfl
    · -- 1
      refine LinStep.plain rfl ?_
      intro QQ bb T ww hn hJ hd K HK
      obtain ⟨x0, t0, f0⟩ := hJ.dep hd 0 8 (by kernel_rfl) (by kernel_rfl)
      obtain rfl : x0 = .agg #[.string x, .int .u16 L, .int .u8 g, .slice a0 len cap] := f0
      have G := hJ.keep
      clear hJ hd hn
      go_wp2_with ((go_at_call 11; ((with_reducible refine (frame_is x L g a0 len cap t _ HX.out.1 HX.out.2 HT).mono ?_); rintro e' w1 ⟨rfl, hk⟩)))
      exact HK.out _ _ hk rfl
    · -- 2
      refine LinStep.plain rfl ?_
      intro QQ bb T ww hn hJ hd K HK
      have s2 := (hJ.oldSlot 2 (by kernel_rfl))
      simp only [List.getElem?_toArray, List.getElem?_cons_zero, List.getElem?_cons_succ] at s2
      have G := hJ.keep
      clear hJ hd hn
      go_simp
      exact HK.out _ _ (Keep.refl _) rfl
    · -- 3
      refine LinStep.plain rfl ?_
      intro QQ bb T ww hn hJ hd K HK
      obtain ⟨x2, t2, f2⟩ := hJ.dep hd 2 10 (by kernel_rfl) (by kernel_rfl)
      obtain rfl : x2 = .pointer (some ⟨A, 2, none⟩) := f2
      have G := hJ.keep
      clear hJ hd hn
      have k0 := G.some c2
      go_simp
      exact HK.out _ _ (Keep.refl _) rfl
    · -- 4
      refine LinStep.plain rfl ?_
      intro QQ bb T ww hn hJ hd K HK
      obtain ⟨x3, t3, f3⟩ := hJ.dep hd 3 11 (by kernel_rfl) (by kernel_rfl)
      obtain rfl : x3 = .int .u8 g := f3
      have G := hJ.keep
      clear hJ hd hn
      have h1 := HRR.out.1
      have h2 := HRR.out.2.1
      go_simp
      exact HK.out _ _ (Keep.refl _) rfl
    · -- 5
      refine LinStep.plain rfl ?_
      intro QQ bb T ww hn hJ hd K HK
      obtain ⟨x4, t4, f4⟩ := hJ.dep hd 4 12 (by kernel_rfl) (by kernel_rfl)
      obtain rfl : x4 = .int .u8 r := f4
      have G := hJ.keep
      clear hJ hd hn
      have h1 := HRR.out.2.2.1
      go_simp
      exact HK.out _ _ (Keep.refl _) rfl
    · -- 6
      refine LinStep.plain rfl ?_
      intro QQ bb T ww hn hJ hd K HK
      have s2 := (hJ.oldSlot 2 (by kernel_rfl))
      simp only [List.getElem?_toArray, List.getElem?_cons_zero, List.getElem?_cons_succ] at s2
      have G := hJ.keep
      clear hJ hd hn
      have k0 := G.some c0
      have k1 := G.some c1
      have k2 := G.some c2
      have k3 := G.some c3
      go_simp
      exact HK.out _ _ (Keep.refl _) rfl
    · -- 7
      refine LinStep.plain rfl ?_
      intro QQ bb T ww hn hJ hd K HK
      have s1 := (hJ.oldSlot 1 (by kernel_rfl))
      simp only [List.getElem?_toArray, List.getElem?_cons_zero, List.getElem?_cons_succ] at s1
      have G := hJ.keep
      clear hJ hd hn
      go_simp
      exact HK.out _ _ (Keep.refl _) rfl
    · -- 8
      refine LinStep.plain rfl ?_
      intro QQ bb T ww hn hJ hd K HK
      obtain ⟨x6, t6, f6⟩ := hJ.dep hd 6 14 (by kernel_rfl) (by kernel_rfl)
      obtain rfl : x6 = .agg #[.string x, .int .u16 L, .int .u8 g, .slice a0 len cap] := f6
      obtain ⟨x7, t7, f7⟩ := hJ.dep hd 7 15 (by kernel_rfl) (by kernel_rfl)
      obtain rfl : x7 = .int .i64 M := f7
      have G := hJ.keep
      clear hJ hd hn
      go_wp2_with ((go_at_call 10; ((with_reducible refine (offsets_is x L g _ gs most M l _ HX.out.1 HX.out.2 HBL.out (HV.out.keep G) HM.out.1 HM.out.2 HL).mono ?_); rintro e' w1 ⟨u, rfl, ho, hk⟩)))
      exact HK.out _ _ hk (ho.base G.size)
    · -- 9
      refine LinStep.plain rfl ?_
      intro QQ bb T ww hn hJ hd K HK
      obtain ⟨x1, t1, f1⟩ := hJ.dep hd 1 9 (by kernel_rfl) (by kernel_rfl)
      obtain rfl : x1 = .string t := f1
      obtain ⟨x5, t5, f5⟩ := hJ.dep hd 5 13 (by kernel_rfl) (by kernel_rfl)
      obtain rfl : x5 = .int .i64 r := f5
      obtain ⟨x8, t8, f8⟩ := hJ.dep hd 8 16 (by kernel_rfl) (by kernel_rfl)
      replace f8 : OwnI ww w0.heap.size x8 l := f8
      have G := hJ.keep
      clear hJ hd hn
      go_wp2_with ((go_at_call 14; ((with_reducible refine (refCut_is t r x8 l ll 0 _ (f8.list HLN.out) HLL HEE).mono ?_); rintro e' w1 ⟨u, rfl, ho, hk⟩)))
      exact HK.out _ _ hk (⟨u, rfl, ho.base G.size⟩)
    · -- 10
      refine LinStep.plain rfl ?_
      intro QQ bb T ww hn hJ hd K HK
      obtain ⟨x9, t9, f9⟩ := hJ.dep hd 9 17 (by kernel_rfl) (by kernel_rfl)
      replace f9 : ∃ u, x9 = .tuple #[u, .int .i64 0] ∧ OwnP ww w0.heap.size u ll := f9
      obtain ⟨u9, rfl, g9⟩ := f9
      have G := hJ.keep
      clear hJ hd hn
      go_simp
      exact HK.out _ _ (Keep.refl _) (⟨u9, rfl, g9⟩)
    · -- 11
      refine LinStep.plain rfl ?_
      intro QQ bb T ww hn hJ hd K HK
      obtain ⟨x10, t10, f10⟩ := hJ.dep hd 10 7 (by kernel_rfl) (by kernel_rfl)
      replace f10 : ∃ u, x10 = .tuple #[u, .int .i64 0] ∧ OwnP ww w0.heap.size u ll := f10
      obtain ⟨u10, rfl, g10⟩ := f10
      have G := hJ.keep
      clear hJ hd hn
      go_simp
      exact HK.out _ _ (Keep.refl _) (g10)
    · -- 12
      refine LinStep.plain rfl ?_
      intro QQ bb T ww hn hJ hd K HK
      obtain ⟨x10, t10, f10⟩ := hJ.dep hd 10 7 (by kernel_rfl) (by kernel_rfl)
      replace f10 : ∃ u, x10 = .tuple #[u, .int .i64 0] ∧ OwnP ww w0.heap.size u ll := f10
      obtain ⟨u10, rfl, g10⟩ := f10
      have G := hJ.keep
      clear hJ hd hn
      go_simp
      exact HK.out _ _ (Keep.refl _) rfl
    · -- 13
      refine LinStep.plain rfl ?_
      intro QQ bb T ww hn hJ hd K HK
      obtain ⟨x11, t11, f11⟩ := hJ.dep hd 11 18 (by kernel_rfl) (by kernel_rfl)
      replace f11 : OwnP ww w0.heap.size x11 ll := f11
      have G := hJ.keep
      clear hJ hd hn
      go_simp
      exact HK.out _ _ (Keep.refl _) (f11)
    · -- 14
      refine LinStep.plain rfl ?_
      intro QQ bb T ww hn hJ hd K HK
      obtain ⟨x12, t12, f12⟩ := hJ.dep hd 12 19 (by kernel_rfl) (by kernel_rfl)
      obtain rfl : x12 = .int .i64 0 := f12
      have G := hJ.keep
      clear hJ hd hn
      go_simp
      exact HK.out _ _ (Keep.refl _) rfl
end Go.Proofs.Ytgejpbgpgklimaa
